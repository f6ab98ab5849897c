import Derived.Test.YtgipkpkjoicehaaGreatDoorJPocketKeys3
import Derived.Test.YtgipkpkjoicehaaGreatDoorJPocketKeys1
import Derived.Test.YtgipkpkjoicehaaGreatDoorRows
import Derived.Test.YtgipkpkjoicehaaGreatDoorMtD
import Derived.WalkKit
import Derived.ProofKit
import Derived.OpenShut
import Derived.Below
import Derived.ChangeSame
import Derived.Lib.SmallJoins
import Derived.Test.YtgipkpkjoicehaaGreatDoorOrD
import Derived.SizedLaws
import Derived.Deep.Slices
import Derived.Test.YtgipkpkjoicehaaGreatDoorJPocketKeys2
import Derived.LaidLaws

/- Digits are keyed into a pocket, as the document says. -/
namespace Go.Proofs.YtgipkpkjoicehaaGreatDoor.pkt
open Go.RowKit Go.Proofs.YtgipkpkjoicehaaGreatDoor.met Go.Proofs.YtgipkpkjoicehaaGreatDoor.slot Go.Proofs.YtgipkpkjoicehaaGreatDoor.cell Go.Proofs.YtgipkpkjoicehaaGreatDoor.ora Go.Proofs.YtgipkpkjoicehaaGreatDoor.token
set_option maxRecDepth 100000
set_option linter.unusedVariables false
set_option linter.unusedSimpArgs false

theorem parsed_all (s : ByteArray) (w : World) : Calls Tryz.prog 16 #[.string s] w fun e w' => e = .returned (.tuple #[parseV s.data.toList, .int .i64 (parseE s.data.toList)]) ∧ Below w.heap.size w w' := by
  by_cases h : s.size = 20
  · exact parsed_any s w h
  · have hl := check.len_eq s
    obtain ⟨e1, e2⟩ := parse_len (l := s.data.toList) (by omega)
    rw [e1, e2]
    exact parsed_len s w h
set_option maxHeartbeats 2000000 in
theorem pktkeyed (a : Option Addr) (n cap : Nat) (xs : List Int) (ao : Option Addr) (no co : Nat) (l : List Pr) (tx : ByteArray) (w : World) (h : RowU w a n xs) (hw : ∀ x ∈ rcd xs 5 (which xs 5), 0 ≤ x ∧ x < 4294967296) (hp : RowP w ao no l) :
    Calls Tryz.prog 7 #[.slice a n cap, .agg #[.slice ao no co], .string tx] w fun e w' => KeyedPost w xs l tx e w' := by
  have HBT : Hid (∀ W, Below w.heap.size w W → Calls Tryz.prog 15 #[.slice a n cap] W fun e w' => BootPost W xs e w') := fun W hB => booted a n cap xs W (h.below hB) hw
  have HPA : Hid (∀ W, Calls Tryz.prog 16 #[.string tx] W fun e w' => e = .returned (.tuple #[parseV tx.data.toList, .int .i64 (parseE tx.data.toList)]) ∧ Below W.heap.size W w') := fun W => parsed_all tx W
  have HOM : Hid (∀ W, Below w.heap.size w W → Calls Tryz.prog 17 #[.agg #[.slice ao no co]] W fun e w' => ora.Told W (May l) e w') := fun W hB => omay_any ao no co l W (hp.below hB)
  have HKY : Hid (∀ W (m : Mt) c i am t, Below w.heap.size w W → Mw m → Calls Tryz.prog 18 #[m.v, .agg #[.slice ao no co], .agg #[.int .i64 c, .int .i64 i, .int .i64 am, .int .i64 t]] W fun e w' => KeyPost W m l c i am t e w') := fun W m c i am t hB hm => keyed_any m ao no co l c i am t W (hp.below hB) hm.b
  have HSU : Hid (∀ m, BootIs xs m 0 → Mw m ∧ n = 12 ∧ which xs 5 ≤ 1) := fun m hb => by
    obtain ⟨h1, h2⟩ := BootIs.sure hw hb
    exact ⟨h2, h.1.symm.trans h1.len, h1.one⟩
  have HRW : Hid (∀ W, Below w.heap.size w W → RowU W a n xs) := fun W hB => h.below hB
  have HTK : Hid (parseE tx.data.toList = 0 → parseV tx.data.toList = (tk tx.data.toList).v ∧ (tk tx.data.toList).ok) := tk_of
  have HNT : Hid (parseE tx.data.toList ≠ 0 → parseV tx.data.toList = noTok) := parse_else
  generalize hS : tx.data.toList = S at *
  have HS : Hid (tx.data.toList = S) := hS
  clear h hw hp hS
  have H0o : Hid (Blk (w.alloc (.cells #[.slice ao no co] 25)) (w.heap.size) #[.slice ao no co] 25) := Blk.new w _ _
  have H0B : Hid (Below w.heap.size w (w.alloc (.cells #[.slice ao no co] 25))) := (Below.refl w.heap.size w).alloc (by simp) _
  go_enter Tryz.func7, Tryz.ntmps7
  go_wp2_with fail
  refine (HBT.out _ H0B.out).mono ?_
  rintro e w1 ⟨m1, f1, rfl, hi1, hb1⟩
  have H1o : Hid (Blk w1 (w.heap.size) #[.slice ao no co] 25) := H0o.out.next hb1
  have H1B : Hid (Below w.heap.size w w1) := bel_step H0B.out hb1
  have HI1 : Hid (BootIs xs m1 f1) := hi1
  clear hi1 HBT
  by_cases hf : f1 = 0
  · subst hf
    obtain ⟨hmw, rfl, hwh⟩ := HSU.out _ HI1.out
    have HMW : Hid (Mw m1) := hmw
    have HK1 : Hid (∀ W c i am t, Below w.heap.size w W → Calls Tryz.prog 18 #[m1.v, .agg #[.slice ao no co], .agg #[.int .i64 c, .int .i64 i, .int .i64 am, .int .i64 t]] W fun e w' => KeyPost W m1 l c i am t e w') := fun W c i am t hB => HKY.out W m1 c i am t hB hmw
    have HWR : Hid (∀ W m2, Below w.heap.size w W → Mw m2 → Calls Tryz.prog 19 #[.slice a 12 cap, m1.v, m2.v] W fun e w' => WritesPost W xs m1 m2 e w') := fun W m2 hB hm2 => stored_any a cap xs m1 m2 W (HRW.out W hB) hwh hmw hm2
    clear hmw hwh HSU HRW HKY
    obtain ⟨me1, rev1, cr1, h1, b1, bad1, lock1⟩ := m1
    unfold Mt.v Mt.cells at *
    simp only [] at HK1 HWR ⊢
    have H2o : Hid (Blk (w1.alloc (.cells #[.int .i64 me1, .int .i64 rev1, .int .i64 cr1, .int .i64 h1, .int .u64 (b1 : Int), .int .i64 bad1, .int .i64 lock1] 40)) (w.heap.size) #[.slice ao no co] 25) := (H1o.out).alloc _
    have H2m : Hid (Blk (w1.alloc (.cells #[.int .i64 me1, .int .i64 rev1, .int .i64 cr1, .int .i64 h1, .int .u64 (b1 : Int), .int .i64 bad1, .int .i64 lock1] 40)) (w1.heap.size) #[.int .i64 me1, .int .i64 rev1, .int .i64 cr1, .int .i64 h1, .int .u64 (b1 : Int), .int .i64 bad1, .int .i64 lock1] 40) := (Blk.new w1 _ _)
    have L2mo : Hid (w.heap.size < w1.heap.size) := Nat.lt_of_lt_of_le H1o.out.lt (by simp)
    have H2B : Hid (Below w.heap.size w (w1.alloc (.cells #[.int .i64 me1, .int .i64 rev1, .int .i64 cr1, .int .i64 h1, .int .u64 (b1 : Int), .int .i64 bad1, .int .i64 lock1] 40))) := (H1B.out).alloc (Nat.le_trans H1B.out.size (by simp)) _
    have L20 : Hid (w.heap.size ≤ w1.heap.size) := H1B.out.size
    clear H0o H0B H1o H1B hb1
    go_wp2_with (first
      | (refine wp_whole rfl 25 _ rfl (w.heap.size) rfl 25 #[.slice ao no co] _ H2o.out Tryz.underlying25 rfl (by kernel_rfl) ?_)
      | (refine wp_wholeG (by rfl) 25 _ rfl (w.heap.size) rfl 25 #[.slice ao no co] _ H2o.out Tryz.underlying25 rfl (by kernel_rfl) ?_)
      | (refine wp_whole rfl 40 _ rfl (w1.heap.size) rfl 40 #[.int .i64 me1, .int .i64 rev1, .int .i64 cr1, .int .i64 h1, .int .u64 (b1 : Int), .int .i64 bad1, .int .i64 lock1] _ H2m.out Tryz.underlying40 rfl (by kernel_rfl) ?_)
      | (refine wp_wholeG (by rfl) 40 _ rfl (w1.heap.size) rfl 40 #[.int .i64 me1, .int .i64 rev1, .int .i64 cr1, .int .i64 h1, .int .u64 (b1 : Int), .int .i64 bad1, .int .i64 lock1] _ H2m.out Tryz.underlying40 rfl (by kernel_rfl) ?_)
      | fail)
    refine (HPA.out _).mono ?_
    rintro e w2 ⟨rfl, hb2⟩
    have H3o : Hid (Blk w2 (w.heap.size) #[.slice ao no co] 25) := H2o.out.next hb2
    have H3m : Hid (Blk w2 (w1.heap.size) #[.int .i64 me1, .int .i64 rev1, .int .i64 cr1, .int .i64 h1, .int .u64 (b1 : Int), .int .i64 bad1, .int .i64 lock1] 40) := H2m.out.next hb2
    have H3B : Hid (Below w.heap.size w w2) := bel_step H2B.out hb2
    clear HPA
    by_cases hp : parseE S = 0
    · obtain ⟨hv, hk⟩ := HTK.out hp
      rw [hv, hp]
      have HP : Hid (parseE S = 0 ∧ (tk S).ok) := ⟨hp, hk⟩
      clear hp hv hk HTK HNT
      generalize hk : tk S = k at HP ⊢
      have HKE : Hid (tk S = k) := hk
      clear hk
      unfold Tok.v
      have H4o : Hid (Blk (w2.alloc (.cells #[.int .i64 (k.c : Int), .int .i64 (k.i : Int), .int .i64 (k.a : Int), .int .i64 (k.t : Int)] 44)) (w.heap.size) #[.slice ao no co] 25) := (H3o.out).alloc _
      have H4m : Hid (Blk (w2.alloc (.cells #[.int .i64 (k.c : Int), .int .i64 (k.i : Int), .int .i64 (k.a : Int), .int .i64 (k.t : Int)] 44)) (w1.heap.size) #[.int .i64 me1, .int .i64 rev1, .int .i64 cr1, .int .i64 h1, .int .u64 (b1 : Int), .int .i64 bad1, .int .i64 lock1] 40) := (H3m.out).alloc _
      have H4t : Hid (Blk (w2.alloc (.cells #[.int .i64 (k.c : Int), .int .i64 (k.i : Int), .int .i64 (k.a : Int), .int .i64 (k.t : Int)] 44)) (w2.heap.size) #[.int .i64 (k.c : Int), .int .i64 (k.i : Int), .int .i64 (k.a : Int), .int .i64 (k.t : Int)] 44) := (Blk.new w2 _ _)
      have L4to : Hid (w.heap.size < w2.heap.size) := Nat.lt_of_lt_of_le H3o.out.lt (by simp)
      have L4tm : Hid (w1.heap.size < w2.heap.size) := Nat.lt_of_lt_of_le H3m.out.lt (by simp)
      have H4B : Hid (Below w.heap.size w (w2.alloc (.cells #[.int .i64 (k.c : Int), .int .i64 (k.i : Int), .int .i64 (k.a : Int), .int .i64 (k.t : Int)] 44))) := (H3B.out).alloc (Nat.le_trans H3B.out.size (by simp)) _
      have L40 : Hid (w.heap.size ≤ w2.heap.size) := H3B.out.size
      clear H2o H2m H2B H3o H3m H3B hb2
      have q_o_0 : (w2.alloc (.cells #[.int .i64 (k.c : Int), .int .i64 (k.i : Int), .int .i64 (k.a : Int), .int .i64 (k.t : Int)] 44)).cell? ⟨w.heap.size, 0, none⟩ = some (.slice ao no co) := H4o.out.cell 0
      go_wp2_with (first
        | (refine wp_whole rfl 25 _ rfl (w.heap.size) rfl 25 #[.slice ao no co] _ H4o.out Tryz.underlying25 rfl (by kernel_rfl) ?_)
        | (refine wp_wholeG (by rfl) 25 _ rfl (w.heap.size) rfl 25 #[.slice ao no co] _ H4o.out Tryz.underlying25 rfl (by kernel_rfl) ?_)
        | (refine wp_whole rfl 40 _ rfl (w1.heap.size) rfl 40 #[.int .i64 me1, .int .i64 rev1, .int .i64 cr1, .int .i64 h1, .int .u64 (b1 : Int), .int .i64 bad1, .int .i64 lock1] _ H4m.out Tryz.underlying40 rfl (by kernel_rfl) ?_)
        | (refine wp_wholeG (by rfl) 40 _ rfl (w1.heap.size) rfl 40 #[.int .i64 me1, .int .i64 rev1, .int .i64 cr1, .int .i64 h1, .int .u64 (b1 : Int), .int .i64 bad1, .int .i64 lock1] _ H4m.out Tryz.underlying40 rfl (by kernel_rfl) ?_)
        | (refine wp_whole rfl 44 _ rfl (w2.heap.size) rfl 44 #[.int .i64 (k.c : Int), .int .i64 (k.i : Int), .int .i64 (k.a : Int), .int .i64 (k.t : Int)] _ H4t.out Tryz.underlying44 rfl (by kernel_rfl) ?_)
        | (refine wp_wholeG (by rfl) 44 _ rfl (w2.heap.size) rfl 44 #[.int .i64 (k.c : Int), .int .i64 (k.i : Int), .int .i64 (k.a : Int), .int .i64 (k.t : Int)] _ H4t.out Tryz.underlying44 rfl (by kernel_rfl) ?_)
        | fail)
      clear q_o_0
      refine (HOM.out _ H4B.out).mono ?_
      rintro e w3 ⟨r, rfl, hr, hb3⟩
      have H5o : Hid (Blk w3 (w.heap.size) #[.slice ao no co] 25) := H4o.out.next hb3
      have H5m : Hid (Blk w3 (w1.heap.size) #[.int .i64 me1, .int .i64 rev1, .int .i64 cr1, .int .i64 h1, .int .u64 (b1 : Int), .int .i64 bad1, .int .i64 lock1] 40) := H4m.out.next hb3
      have H5t : Hid (Blk w3 (w2.heap.size) #[.int .i64 (k.c : Int), .int .i64 (k.i : Int), .int .i64 (k.a : Int), .int .i64 (k.t : Int)] 44) := H4t.out.next hb3
      have H5B : Hid (Below w.heap.size w w3) := bel_step H4B.out hb3
      clear HOM
      cases r with
      | false =>
        have HNO : Hid (¬ May l) := fun h => by have := hr.2 h; cases this
        clear H4o H4m H4t H4B hr hb3 HK1 HWR
        go_wp2_with (first
          | (refine wp_whole rfl 25 _ rfl (w.heap.size) rfl 25 #[.slice ao no co] _ H5o.out Tryz.underlying25 rfl (by kernel_rfl) ?_)
          | (refine wp_wholeG (by rfl) 25 _ rfl (w.heap.size) rfl 25 #[.slice ao no co] _ H5o.out Tryz.underlying25 rfl (by kernel_rfl) ?_)
          | (refine wp_whole rfl 40 _ rfl (w1.heap.size) rfl 40 #[.int .i64 me1, .int .i64 rev1, .int .i64 cr1, .int .i64 h1, .int .u64 (b1 : Int), .int .i64 bad1, .int .i64 lock1] _ H5m.out Tryz.underlying40 rfl (by kernel_rfl) ?_)
          | (refine wp_wholeG (by rfl) 40 _ rfl (w1.heap.size) rfl 40 #[.int .i64 me1, .int .i64 rev1, .int .i64 cr1, .int .i64 h1, .int .u64 (b1 : Int), .int .i64 bad1, .int .i64 lock1] _ H5m.out Tryz.underlying40 rfl (by kernel_rfl) ?_)
          | (refine wp_whole rfl 44 _ rfl (w2.heap.size) rfl 44 #[.int .i64 (k.c : Int), .int .i64 (k.i : Int), .int .i64 (k.a : Int), .int .i64 (k.t : Int)] _ H5t.out Tryz.underlying44 rfl (by kernel_rfl) ?_)
          | (refine wp_wholeG (by rfl) 44 _ rfl (w2.heap.size) rfl 44 #[.int .i64 (k.c : Int), .int .i64 (k.i : Int), .int .i64 (k.a : Int), .int .i64 (k.t : Int)] _ H5t.out Tryz.underlying44 rfl (by kernel_rfl) ?_)
          | fail)
        go_ret3
        exact ⟨none, 0, 0, [], 0, 5, rfl, Wg.none _, KeyedIs.state HI1.out (by rw [HS.out]; exact HP.out.1) HNO.out, H5B.out⟩
      | true =>
        have HYE : Hid (May l) := hr.1 rfl
        clear H4o H4m H4t H4B hr hb3
        have q_o_0 : w3.cell? ⟨w.heap.size, 0, none⟩ = some (.slice ao no co) := H5o.out.cell 0
        go_wp2_with (first
          | (refine wp_whole rfl 25 _ rfl (w.heap.size) rfl 25 #[.slice ao no co] _ H5o.out Tryz.underlying25 rfl (by kernel_rfl) ?_)
          | (refine wp_wholeG (by rfl) 25 _ rfl (w.heap.size) rfl 25 #[.slice ao no co] _ H5o.out Tryz.underlying25 rfl (by kernel_rfl) ?_)
          | (refine wp_whole rfl 40 _ rfl (w1.heap.size) rfl 40 #[.int .i64 me1, .int .i64 rev1, .int .i64 cr1, .int .i64 h1, .int .u64 (b1 : Int), .int .i64 bad1, .int .i64 lock1] _ H5m.out Tryz.underlying40 rfl (by kernel_rfl) ?_)
          | (refine wp_wholeG (by rfl) 40 _ rfl (w1.heap.size) rfl 40 #[.int .i64 me1, .int .i64 rev1, .int .i64 cr1, .int .i64 h1, .int .u64 (b1 : Int), .int .i64 bad1, .int .i64 lock1] _ H5m.out Tryz.underlying40 rfl (by kernel_rfl) ?_)
          | (refine wp_whole rfl 44 _ rfl (w2.heap.size) rfl 44 #[.int .i64 (k.c : Int), .int .i64 (k.i : Int), .int .i64 (k.a : Int), .int .i64 (k.t : Int)] _ H5t.out Tryz.underlying44 rfl (by kernel_rfl) ?_)
          | (refine wp_wholeG (by rfl) 44 _ rfl (w2.heap.size) rfl 44 #[.int .i64 (k.c : Int), .int .i64 (k.i : Int), .int .i64 (k.a : Int), .int .i64 (k.t : Int)] _ H5t.out Tryz.underlying44 rfl (by kernel_rfl) ?_)
          | fail)
        clear q_o_0
        refine (HK1.out _ _ _ _ _ H5B.out).mono ?_
        rintro e w4 ⟨m4, x4, f4, rfl, hi4, hb4⟩
        have H6o : Hid (Blk w4 (w.heap.size) #[.slice ao no co] 25) := H5o.out.next hb4
        have H6m : Hid (Blk w4 (w1.heap.size) #[.int .i64 me1, .int .i64 rev1, .int .i64 cr1, .int .i64 h1, .int .u64 (b1 : Int), .int .i64 bad1, .int .i64 lock1] 40) := H5m.out.next hb4
        have H6t : Hid (Blk w4 (w2.heap.size) #[.int .i64 (k.c : Int), .int .i64 (k.i : Int), .int .i64 (k.a : Int), .int .i64 (k.t : Int)] 44) := H5t.out.next hb4
        have H6B : Hid (Below w.heap.size w w4) := bel_step H5B.out hb4
        have HI4 : Hid (KeyIs ⟨me1, rev1, cr1, h1, b1, bad1, lock1⟩ l (k.c : Int) (k.i : Int) (k.a : Int) (k.t : Int) (bodyI (k.c : Int) (k.i : Int) (k.a : Int)) m4 x4 f4) := hi4
        have HM4 : Hid (Mw m4) := key_mw hi4 HMW.out HYE.out HP.out.2
        have HW4 : Hid (∀ W, Below w.heap.size w W → Calls Tryz.prog 19 #[.slice a 12 cap, .agg #[.int .i64 me1, .int .i64 rev1, .int .i64 cr1, .int .i64 h1, .int .u64 (b1 : Int), .int .i64 bad1, .int .i64 lock1], m4.v] W fun e w' => WritesPost W xs ⟨me1, rev1, cr1, h1, b1, bad1, lock1⟩ m4 e w') := fun W hB => HWR.out W m4 hB HM4.out
        clear hi4 HK1 HWR
        obtain ⟨me4, rev4, cr4, h4, b4, bad4, lock4⟩ := m4
        unfold Mt.v Mt.cells at *
        simp only [] at HW4 ⊢
        have H7o : Hid (Blk (w4.alloc (.cells #[.int .i64 me4, .int .i64 rev4, .int .i64 cr4, .int .i64 h4, .int .u64 (b4 : Int), .int .i64 bad4, .int .i64 lock4] 40)) (w.heap.size) #[.slice ao no co] 25) := (H6o.out).alloc _
        have H7m : Hid (Blk (w4.alloc (.cells #[.int .i64 me4, .int .i64 rev4, .int .i64 cr4, .int .i64 h4, .int .u64 (b4 : Int), .int .i64 bad4, .int .i64 lock4] 40)) (w1.heap.size) #[.int .i64 me1, .int .i64 rev1, .int .i64 cr1, .int .i64 h1, .int .u64 (b1 : Int), .int .i64 bad1, .int .i64 lock1] 40) := (H6m.out).alloc _
        have H7t : Hid (Blk (w4.alloc (.cells #[.int .i64 me4, .int .i64 rev4, .int .i64 cr4, .int .i64 h4, .int .u64 (b4 : Int), .int .i64 bad4, .int .i64 lock4] 40)) (w2.heap.size) #[.int .i64 (k.c : Int), .int .i64 (k.i : Int), .int .i64 (k.a : Int), .int .i64 (k.t : Int)] 44) := (H6t.out).alloc _
        have H7n : Hid (Blk (w4.alloc (.cells #[.int .i64 me4, .int .i64 rev4, .int .i64 cr4, .int .i64 h4, .int .u64 (b4 : Int), .int .i64 bad4, .int .i64 lock4] 40)) (w4.heap.size) #[.int .i64 me4, .int .i64 rev4, .int .i64 cr4, .int .i64 h4, .int .u64 (b4 : Int), .int .i64 bad4, .int .i64 lock4] 40) := (Blk.new w4 _ _)
        have L7no : Hid (w.heap.size < w4.heap.size) := Nat.lt_of_lt_of_le H6o.out.lt (by simp)
        have L7nm : Hid (w1.heap.size < w4.heap.size) := Nat.lt_of_lt_of_le H6m.out.lt (by simp)
        have L7nt : Hid (w2.heap.size < w4.heap.size) := Nat.lt_of_lt_of_le H6t.out.lt (by simp)
        have H7B : Hid (Below w.heap.size w (w4.alloc (.cells #[.int .i64 me4, .int .i64 rev4, .int .i64 cr4, .int .i64 h4, .int .u64 (b4 : Int), .int .i64 bad4, .int .i64 lock4] 40))) := (H6B.out).alloc (Nat.le_trans H6B.out.size (by simp)) _
        have L70 : Hid (w.heap.size ≤ w4.heap.size) := H6B.out.size
        clear H5o H5m H5t H5B H6o H6m H6t H6B hb4
        go_wp2_with (first
          | (refine wp_whole rfl 25 _ rfl (w.heap.size) rfl 25 #[.slice ao no co] _ H7o.out Tryz.underlying25 rfl (by kernel_rfl) ?_)
          | (refine wp_wholeG (by rfl) 25 _ rfl (w.heap.size) rfl 25 #[.slice ao no co] _ H7o.out Tryz.underlying25 rfl (by kernel_rfl) ?_)
          | (refine wp_whole rfl 40 _ rfl (w1.heap.size) rfl 40 #[.int .i64 me1, .int .i64 rev1, .int .i64 cr1, .int .i64 h1, .int .u64 (b1 : Int), .int .i64 bad1, .int .i64 lock1] _ H7m.out Tryz.underlying40 rfl (by kernel_rfl) ?_)
          | (refine wp_wholeG (by rfl) 40 _ rfl (w1.heap.size) rfl 40 #[.int .i64 me1, .int .i64 rev1, .int .i64 cr1, .int .i64 h1, .int .u64 (b1 : Int), .int .i64 bad1, .int .i64 lock1] _ H7m.out Tryz.underlying40 rfl (by kernel_rfl) ?_)
          | (refine wp_whole rfl 44 _ rfl (w2.heap.size) rfl 44 #[.int .i64 (k.c : Int), .int .i64 (k.i : Int), .int .i64 (k.a : Int), .int .i64 (k.t : Int)] _ H7t.out Tryz.underlying44 rfl (by kernel_rfl) ?_)
          | (refine wp_wholeG (by rfl) 44 _ rfl (w2.heap.size) rfl 44 #[.int .i64 (k.c : Int), .int .i64 (k.i : Int), .int .i64 (k.a : Int), .int .i64 (k.t : Int)] _ H7t.out Tryz.underlying44 rfl (by kernel_rfl) ?_)
          | (refine wp_whole rfl 40 _ rfl (w4.heap.size) rfl 40 #[.int .i64 me4, .int .i64 rev4, .int .i64 cr4, .int .i64 h4, .int .u64 (b4 : Int), .int .i64 bad4, .int .i64 lock4] _ H7n.out Tryz.underlying40 rfl (by kernel_rfl) ?_)
          | (refine wp_wholeG (by rfl) 40 _ rfl (w4.heap.size) rfl 40 #[.int .i64 me4, .int .i64 rev4, .int .i64 cr4, .int .i64 h4, .int .u64 (b4 : Int), .int .i64 bad4, .int .i64 lock4] _ H7n.out Tryz.underlying40 rfl (by kernel_rfl) ?_)
          | fail)
        refine (HW4.out _ H7B.out).mono ?_
        rintro e w5 ⟨a5, n5, c5, ls, rfl, hg5, hi5, hb5⟩
        have H8o : Hid (Blk w5 (w.heap.size) #[.slice ao no co] 25) := H7o.out.next hb5
        have H8m : Hid (Blk w5 (w1.heap.size) #[.int .i64 me1, .int .i64 rev1, .int .i64 cr1, .int .i64 h1, .int .u64 (b1 : Int), .int .i64 bad1, .int .i64 lock1] 40) := H7m.out.next hb5
        have H8t : Hid (Blk w5 (w2.heap.size) #[.int .i64 (k.c : Int), .int .i64 (k.i : Int), .int .i64 (k.a : Int), .int .i64 (k.t : Int)] 44) := H7t.out.next hb5
        have H8n : Hid (Blk w5 (w4.heap.size) #[.int .i64 me4, .int .i64 rev4, .int .i64 cr4, .int .i64 h4, .int .u64 (b4 : Int), .int .i64 bad4, .int .i64 lock4] 40) := H7n.out.next hb5
        have H8B : Hid (Below w.heap.size w w5) := bel_step H7B.out hb5
        have HFF : Hid (Wg w5 a5 n5 c5 ls ∧ WrIs xs ⟨me1, rev1, cr1, h1, b1, bad1, lock1⟩ ⟨me4, rev4, cr4, h4, b4, bad4, lock4⟩ ls) := ⟨hg5, hi5⟩
        clear H7o H7m H7t H7n H7B hb5 hg5 hi5 HW4
        go_wp2_with fail
        go_ret3
        exact ⟨a5, n5, c5, ls, x4, f4, rfl, HFF.out.1, KeyedIs.ref HI1.out (by rw [HS.out]; exact HP.out.1) (by rw [HS.out, HKE.out]; exact HI4.out) HMW.out.may HYE.out HFF.out.2, H8B.out⟩
    · have hv := HNT.out hp
      rw [hv]
      have hd : (parseE S != 0) = true := by simpa using hp
      have HF : Hid (parseE S ≠ 0) := hp
      have HPQ : Hid (parseE tx.data.toList = parseE S) := by show _ = _; rw [HS.out]
      clear hp hv HTK HNT HK1 HWR HOM
      generalize parseE S = pe at *
      unfold noTok
      have H4o : Hid (Blk (w2.alloc (.cells #[.int .i64 0, .int .i64 0, .int .i64 0, .int .i64 0] 44)) (w.heap.size) #[.slice ao no co] 25) := (H3o.out).alloc _
      have H4m : Hid (Blk (w2.alloc (.cells #[.int .i64 0, .int .i64 0, .int .i64 0, .int .i64 0] 44)) (w1.heap.size) #[.int .i64 me1, .int .i64 rev1, .int .i64 cr1, .int .i64 h1, .int .u64 (b1 : Int), .int .i64 bad1, .int .i64 lock1] 40) := (H3m.out).alloc _
      have H4t : Hid (Blk (w2.alloc (.cells #[.int .i64 0, .int .i64 0, .int .i64 0, .int .i64 0] 44)) (w2.heap.size) #[.int .i64 0, .int .i64 0, .int .i64 0, .int .i64 0] 44) := (Blk.new w2 _ _)
      have L4to : Hid (w.heap.size < w2.heap.size) := Nat.lt_of_lt_of_le H3o.out.lt (by simp)
      have L4tm : Hid (w1.heap.size < w2.heap.size) := Nat.lt_of_lt_of_le H3m.out.lt (by simp)
      have H4B : Hid (Below w.heap.size w (w2.alloc (.cells #[.int .i64 0, .int .i64 0, .int .i64 0, .int .i64 0] 44))) := (H3B.out).alloc (Nat.le_trans H3B.out.size (by simp)) _
      have L40 : Hid (w.heap.size ≤ w2.heap.size) := H3B.out.size
      clear H2o H2m H2B H3o H3m H3B hb2
      go_wp2_with (first
        | (refine wp_whole rfl 25 _ rfl (w.heap.size) rfl 25 #[.slice ao no co] _ H4o.out Tryz.underlying25 rfl (by kernel_rfl) ?_)
        | (refine wp_wholeG (by rfl) 25 _ rfl (w.heap.size) rfl 25 #[.slice ao no co] _ H4o.out Tryz.underlying25 rfl (by kernel_rfl) ?_)
        | (refine wp_whole rfl 40 _ rfl (w1.heap.size) rfl 40 #[.int .i64 me1, .int .i64 rev1, .int .i64 cr1, .int .i64 h1, .int .u64 (b1 : Int), .int .i64 bad1, .int .i64 lock1] _ H4m.out Tryz.underlying40 rfl (by kernel_rfl) ?_)
        | (refine wp_wholeG (by rfl) 40 _ rfl (w1.heap.size) rfl 40 #[.int .i64 me1, .int .i64 rev1, .int .i64 cr1, .int .i64 h1, .int .u64 (b1 : Int), .int .i64 bad1, .int .i64 lock1] _ H4m.out Tryz.underlying40 rfl (by kernel_rfl) ?_)
        | (refine wp_whole rfl 44 _ rfl (w2.heap.size) rfl 44 #[.int .i64 0, .int .i64 0, .int .i64 0, .int .i64 0] _ H4t.out Tryz.underlying44 rfl (by kernel_rfl) ?_)
        | (refine wp_wholeG (by rfl) 44 _ rfl (w2.heap.size) rfl 44 #[.int .i64 0, .int .i64 0, .int .i64 0, .int .i64 0] _ H4t.out Tryz.underlying44 rfl (by kernel_rfl) ?_)
        | fail)
      go_ret3
      exact ⟨none, 0, 0, [], 0, _, rfl, Wg.none _, .inr (.inl ⟨_, HI1.out, HPQ.out, HF.out, rfl, rfl⟩), H4B.out⟩
  · have hd : (f1 != 0) = true := by simpa using hf
    have HF : Hid (f1 ≠ 0) := hf
    clear hf HPA HKY HSU HRW HTK HNT HOM
    obtain ⟨me1, rev1, cr1, h1, b1, bad1, lock1⟩ := m1
    unfold Mt.v Mt.cells
    simp only []
    have H2o : Hid (Blk (w1.alloc (.cells #[.int .i64 me1, .int .i64 rev1, .int .i64 cr1, .int .i64 h1, .int .u64 (b1 : Int), .int .i64 bad1, .int .i64 lock1] 40)) (w.heap.size) #[.slice ao no co] 25) := (H1o.out).alloc _
    have H2m : Hid (Blk (w1.alloc (.cells #[.int .i64 me1, .int .i64 rev1, .int .i64 cr1, .int .i64 h1, .int .u64 (b1 : Int), .int .i64 bad1, .int .i64 lock1] 40)) (w1.heap.size) #[.int .i64 me1, .int .i64 rev1, .int .i64 cr1, .int .i64 h1, .int .u64 (b1 : Int), .int .i64 bad1, .int .i64 lock1] 40) := (Blk.new w1 _ _)
    have L2mo : Hid (w.heap.size < w1.heap.size) := Nat.lt_of_lt_of_le H1o.out.lt (by simp)
    have H2B : Hid (Below w.heap.size w (w1.alloc (.cells #[.int .i64 me1, .int .i64 rev1, .int .i64 cr1, .int .i64 h1, .int .u64 (b1 : Int), .int .i64 bad1, .int .i64 lock1] 40))) := (H1B.out).alloc (Nat.le_trans H1B.out.size (by simp)) _
    have L20 : Hid (w.heap.size ≤ w1.heap.size) := H1B.out.size
    clear H0o H0B H1o H1B hb1
    go_wp2_with (first
      | (refine wp_whole rfl 25 _ rfl (w.heap.size) rfl 25 #[.slice ao no co] _ H2o.out Tryz.underlying25 rfl (by kernel_rfl) ?_)
      | (refine wp_wholeG (by rfl) 25 _ rfl (w.heap.size) rfl 25 #[.slice ao no co] _ H2o.out Tryz.underlying25 rfl (by kernel_rfl) ?_)
      | (refine wp_whole rfl 40 _ rfl (w1.heap.size) rfl 40 #[.int .i64 me1, .int .i64 rev1, .int .i64 cr1, .int .i64 h1, .int .u64 (b1 : Int), .int .i64 bad1, .int .i64 lock1] _ H2m.out Tryz.underlying40 rfl (by kernel_rfl) ?_)
      | (refine wp_wholeG (by rfl) 40 _ rfl (w1.heap.size) rfl 40 #[.int .i64 me1, .int .i64 rev1, .int .i64 cr1, .int .i64 h1, .int .u64 (b1 : Int), .int .i64 bad1, .int .i64 lock1] _ H2m.out Tryz.underlying40 rfl (by kernel_rfl) ?_)
      | fail)
    go_ret3
    exact ⟨none, 0, 0, [], 0, f1, rfl, Wg.none _, .inl ⟨_, HI1.out, HF.out, rfl, rfl⟩, H2B.out⟩

end Go.Proofs.YtgipkpkjoicehaaGreatDoor.pkt

/- The statement of keying digits in. -/
namespace Go.Proofs.YtgipkpkjoicehaaGreatDoor.pkt
open Go.RowKit Go.Proofs.YtgipkpkjoicehaaGreatDoor.met Go.Proofs.YtgipkpkjoicehaaGreatDoor.slot Go.Proofs.YtgipkpkjoicehaaGreatDoor.cell Go.Proofs.YtgipkpkjoicehaaGreatDoor.ora Go.Proofs.YtgipkpkjoicehaaGreatDoor.token
set_option maxRecDepth 100000
set_option linter.unusedVariables false
set_option linter.unusedSimpArgs false

set_option maxHeartbeats 1000000 in
theorem keys_walk (a : Option Addr) (n cap : Nat) (l : List Int) (ao : Option Addr) (no co : Nat) (os : List Pr) (tx : ByteArray) (w : World) (ht : TTab w) (hr : RowU w a n l) (hn : a = none → cap = 0) (hs : n * 4 ≤ 140737488351232) (hl : ∀ x ∈ l, 0 ≤ x ∧ x < 4294967296) (hc : Came w ao no co os) :
    Calls Tryz.prog 3 #[.slice a n cap, .agg #[.slice ao no co], .string tx] w fun e w' => e = .returned (.bool true) ∧ Below w.heap.size w w' := by
  have HC : Hid (∀ W, Below w.heap.size w W → Calls Tryz.prog 4 #[.slice a n cap] W fun e w' => GaveU W l e w') := fun W hB => words_any a n cap l W (hr.below hB) hn hs
  have HCP : Hid (∀ W, Came W ao no co os → Calls Tryz.prog 5 #[.agg #[.slice ao no co]] W fun e w' => Copied W no os e w') := fun W h => oracles_row ao no co os W h
  have H1 : Hid (∀ W a1 cap1 ap cp, Below w.heap.size w W → RowU W a1 n l → n ≤ cap1 → Came W ap no cp os → Calls Tryz.prog 6 #[.slice a1 n cap1, .agg #[.slice ap no cp], .string tx] W fun e w' => KeyedPost W l os tx e w') := fun W a1 cap1 ap cp hB h1 h2 h3 => pkeyed a1 n cap1 l ap no cp os tx W (ht.below hB) h1 h2 (rcd_word hl _ _) h3.row
  have H2 : Hid (∀ W, RowU W a n l → Came W ao no co os → Calls Tryz.prog 7 #[.slice a n cap, .agg #[.slice ao no co], .string tx] W fun e w' => KeyedPost W l os tx e w') := fun W h1 h2 => pktkeyed a n cap l ao no co os tx W h1 (rcd_word hl _ _) h2.row
  have HSW : Hid (∀ W a1 cap1, RowU W a n l → RowU W a1 n l → Calls Tryz.prog 9 #[.slice a n cap, .slice a1 n cap1] W fun e w' => e = .returned (.bool true) ∧ Below W.heap.size W w') := fun W a1 cap1 h1 h2 => words_law a a1 n cap cap1 l W h1 h2 (by unfold maxLen; omega)
  have HSL : Hid (∀ W x1 c1 x2 c2 k ls, RowW W x1 k ls → RowW W x2 k ls → k ≤ 7 → Calls Tryz.prog 8 #[.slice x1 k c1, .slice x2 k c2] W fun e w' => e = .returned (.bool true) ∧ Below W.heap.size W w') := fun W x1 c1 x2 c2 k ls h1 h2 h3 => writes_law x1 x2 k c1 c2 ls W h1 h2 (by unfold maxLen; omega)
  have HSO : Hid (∀ W a' cap', Came W ao no co os → Came W a' no cap' os → Calls Tryz.prog 10 #[.agg #[.slice ao no co], .agg #[.slice a' no cap']] W fun e w' => e = .returned (.bool true) ∧ Below W.heap.size W w') := fun W a' cap' h h' => same_any ao a' no co cap' os W h.row h'.row h.small
  have HL : Hid (l.length = n) := hr.1
  have H0o : Hid (Blk (w.alloc (.cells #[.slice ao no co] 25)) (w.heap.size) #[.slice ao no co] 25) := Blk.new w _ _
  have H0B : Hid (Below w.heap.size w (w.alloc (.cells #[.slice ao no co] 25))) := (Below.refl w.heap.size w).alloc (by simp) _
  have HCa : Hid (RowU (w.alloc (.cells #[.slice ao no co] 25)) a n l) := hr.below H0B.out
  have HCc : Hid (Came (w.alloc (.cells #[.slice ao no co] 25)) ao no co os) := hc.below H0B.out
  clear ht hr hl hs hn hc
  go_enter Tryz.func3, Tryz.ntmps3
  go_wp2_with (first
    | (refine wp_whole rfl 25 _ rfl (w.heap.size) rfl 25 #[.slice ao no co] _ H0o.out Tryz.underlying25 rfl (by kernel_rfl) ?_)
    | (refine wp_wholeG (by rfl) 25 _ rfl (w.heap.size) rfl 25 #[.slice ao no co] _ H0o.out Tryz.underlying25 rfl (by kernel_rfl) ?_)
    | fail)
  refine (HC.out _ H0B.out).mono ?_
  rintro e w1 ⟨v, rfl, hv, hb1⟩
  have H1o : Hid (Blk w1 (w.heap.size) #[.slice ao no co] 25) := H0o.out.next hb1
  have H1B : Hid (Below w.heap.size w w1) := bel_step H0B.out hb1
  have H1Ca : Hid (RowU w1 a n l) := HCa.out.below hb1
  have H1Cc : Hid (Came w1 ao no co os) := HCc.out.below hb1
  obtain ⟨a1, cap1, rfl, hr1, hn1, hc1⟩ := hv.row
  have hL := HL.out
  rw [hL] at hr1 hc1
  rw [hL]
  have HCd : Hid (RowU w1 a1 n l) := hr1
  have HC1 : Hid (n ≤ cap1) := hc1
  clear H0o HCa HCc H0B hb1 hv hr1 hn1 hc1 hL HC HL
  have q_o_0 : w1.cell? ⟨w.heap.size, 0, none⟩ = some (.slice ao no co) := H1o.out.cell 0
  go_wp2_with (first
    | (refine wp_whole rfl 25 _ rfl (w.heap.size) rfl 25 #[.slice ao no co] _ H1o.out Tryz.underlying25 rfl (by kernel_rfl) ?_)
    | (refine wp_wholeG (by rfl) 25 _ rfl (w.heap.size) rfl 25 #[.slice ao no co] _ H1o.out Tryz.underlying25 rfl (by kernel_rfl) ?_)
    | fail)
  clear q_o_0
  refine (HCP.out _ H1Cc.out).mono ?_
  rintro e w2 ⟨ap, cp, rfl, hcp, hb2⟩
  have H2o : Hid (Blk w2 (w.heap.size) #[.slice ao no co] 25) := H1o.out.next hb2
  have H2B : Hid (Below w.heap.size w w2) := bel_step H1B.out hb2
  have H2Ca : Hid (RowU w2 a n l) := H1Ca.out.below hb2
  have H2Cc : Hid (Came w2 ao no co os) := H1Cc.out.below hb2
  have H2Cd : Hid (RowU w2 a1 n l) := HCd.out.below hb2
  have HCp : Hid (Came w2 ap no cp os) := hcp
  have H3o : Hid (Blk (w2.alloc (.cells #[.slice ap no cp] 25)) (w.heap.size) #[.slice ao no co] 25) := (H2o.out).alloc _
  have H3p : Hid (Blk (w2.alloc (.cells #[.slice ap no cp] 25)) (w2.heap.size) #[.slice ap no cp] 25) := (Blk.new w2 _ _)
  have L3po : Hid (w.heap.size < w2.heap.size) := Nat.lt_of_lt_of_le H2o.out.lt (by simp)
  have H3B : Hid (Below w.heap.size w (w2.alloc (.cells #[.slice ap no cp] 25))) := (H2B.out).alloc (Nat.le_trans H2B.out.size (by simp)) _
  have L30 : Hid (w.heap.size ≤ w2.heap.size) := H2B.out.size
  have H3Ca : Hid (RowU (w2.alloc (.cells #[.slice ap no cp] 25)) a n l) := H2Ca.out.below ((Below.refl w2.heap.size w2).alloc (by simp) _)
  have H3Cc : Hid (Came (w2.alloc (.cells #[.slice ap no cp] 25)) ao no co os) := H2Cc.out.below ((Below.refl w2.heap.size w2).alloc (by simp) _)
  have H3Cd : Hid (RowU (w2.alloc (.cells #[.slice ap no cp] 25)) a1 n l) := H2Cd.out.below ((Below.refl w2.heap.size w2).alloc (by simp) _)
  have H3Cp : Hid (Came (w2.alloc (.cells #[.slice ap no cp] 25)) ap no cp os) := HCp.out.below ((Below.refl w2.heap.size w2).alloc (by simp) _)
  clear H1o H1Ca H1Cc HCd H1B H2o H2Ca H2Cc H2Cd HCp H2B hb2 hcp HCP
  have q_p_0 : (w2.alloc (.cells #[.slice ap no cp] 25)).cell? ⟨w2.heap.size, 0, none⟩ = some (.slice ap no cp) := H3p.out.cell 0
  go_wp2_with (first
    | (refine wp_whole rfl 25 _ rfl (w.heap.size) rfl 25 #[.slice ao no co] _ H3o.out Tryz.underlying25 rfl (by kernel_rfl) ?_)
    | (refine wp_wholeG (by rfl) 25 _ rfl (w.heap.size) rfl 25 #[.slice ao no co] _ H3o.out Tryz.underlying25 rfl (by kernel_rfl) ?_)
    | (refine wp_whole rfl 25 _ rfl (w2.heap.size) rfl 25 #[.slice ap no cp] _ H3p.out Tryz.underlying25 rfl (by kernel_rfl) ?_)
    | (refine wp_wholeG (by rfl) 25 _ rfl (w2.heap.size) rfl 25 #[.slice ap no cp] _ H3p.out Tryz.underlying25 rfl (by kernel_rfl) ?_)
    | fail)
  clear q_p_0
  refine (H1.out _ _ _ _ _ H3B.out H3Cd.out HC1.out H3Cp.out).mono ?_
  rintro e w3 ⟨y1, k1, d1, ls, x1, f1, rfl, hg1, hi1, hb3⟩
  have H4o : Hid (Blk w3 (w.heap.size) #[.slice ao no co] 25) := H3o.out.next hb3
  have H4p : Hid (Blk w3 (w2.heap.size) #[.slice ap no cp] 25) := H3p.out.next hb3
  have H4B : Hid (Below w.heap.size w w3) := bel_step H3B.out hb3
  have H4Ca : Hid (RowU w3 a n l) := H3Ca.out.below hb3
  have H4Cc : Hid (Came w3 ao no co os) := H3Cc.out.below hb3
  have H4Cd : Hid (RowU w3 a1 n l) := H3Cd.out.below hb3
  have H4Cp : Hid (Came w3 ap no cp os) := H3Cp.out.below hb3
  have HI1 : Hid (KeyedIs l os tx.data.toList ls x1 f1) := hi1
  have HCg : Hid (Wg w3 y1 k1 d1 ls) := hg1
  clear H3o H3p H3Ca H3Cc H3Cd H3Cp H3B hb3 hi1 hg1 H1
  have q_o_0 : w3.cell? ⟨w.heap.size, 0, none⟩ = some (.slice ao no co) := H4o.out.cell 0
  go_wp2_with (first
    | (refine wp_whole rfl 25 _ rfl (w.heap.size) rfl 25 #[.slice ao no co] _ H4o.out Tryz.underlying25 rfl (by kernel_rfl) ?_)
    | (refine wp_wholeG (by rfl) 25 _ rfl (w.heap.size) rfl 25 #[.slice ao no co] _ H4o.out Tryz.underlying25 rfl (by kernel_rfl) ?_)
    | (refine wp_whole rfl 25 _ rfl (w2.heap.size) rfl 25 #[.slice ap no cp] _ H4p.out Tryz.underlying25 rfl (by kernel_rfl) ?_)
    | (refine wp_wholeG (by rfl) 25 _ rfl (w2.heap.size) rfl 25 #[.slice ap no cp] _ H4p.out Tryz.underlying25 rfl (by kernel_rfl) ?_)
    | fail)
  clear q_o_0
  refine (H2.out _ H4Ca.out H4Cc.out).mono ?_
  rintro e w4 ⟨y2, k2, d2, ls2, x2, f2, rfl, hg2, hi2, hb4⟩
  have H5o : Hid (Blk w4 (w.heap.size) #[.slice ao no co] 25) := H4o.out.next hb4
  have H5p : Hid (Blk w4 (w2.heap.size) #[.slice ap no cp] 25) := H4p.out.next hb4
  have H5B : Hid (Below w.heap.size w w4) := bel_step H4B.out hb4
  have H5Ca : Hid (RowU w4 a n l) := H4Ca.out.below hb4
  have H5Cc : Hid (Came w4 ao no co os) := H4Cc.out.below hb4
  have H5Cd : Hid (RowU w4 a1 n l) := H4Cd.out.below hb4
  have H5Cp : Hid (Came w4 ap no cp os) := H4Cp.out.below hb4
  have H5Cg : Hid (Wg w4 y1 k1 d1 ls) := HCg.out.below hb4
  obtain ⟨rfl, rfl, rfl⟩ := HI1.out.one hi2
  obtain rfl : k1 = k2 := H5Cg.out.row.1.symm.trans hg2.row.1
  have hf : (f1 == f1) = true := beq_self_eq_true f1
  have hx : (x1 == x1) = true := beq_self_eq_true x1
  have HS1 : Hid (Calls Tryz.prog 8 #[.slice y1 k1 d1, .slice y2 k1 d2] w4 fun e w' => e = .returned (.bool true) ∧ Below w4.heap.size w4 w') := HSL.out _ _ _ _ _ _ _ H5Cg.out.row hg2.row hg2.few
  clear H4o H4p H4Ca H4Cc H4Cd H4Cp HCg H4B hb4 hi2 hg2 H2 HI1 HSL
  go_wp2_with fail
  refine HS1.out.mono ?_
  rintro e w5 ⟨rfl, hb5⟩
  have H6o : Hid (Blk w5 (w.heap.size) #[.slice ao no co] 25) := H5o.out.next hb5
  have H6p : Hid (Blk w5 (w2.heap.size) #[.slice ap no cp] 25) := H5p.out.next hb5
  have H6B : Hid (Below w.heap.size w w5) := bel_step H5B.out hb5
  have H6Ca : Hid (RowU w5 a n l) := H5Ca.out.below hb5
  have H6Cc : Hid (Came w5 ao no co os) := H5Cc.out.below hb5
  have H6Cd : Hid (RowU w5 a1 n l) := H5Cd.out.below hb5
  have H6Cp : Hid (Came w5 ap no cp os) := H5Cp.out.below hb5
  have H6Cg : Hid (Wg w5 y1 k1 d1 ls) := H5Cg.out.below hb5
  clear H5o H5p H5Ca H5Cc H5Cd H5Cp H5Cg H5B hb5 HS1
  go_wp2_with fail
  refine (HSW.out _ _ _ H6Ca.out H6Cd.out).mono ?_
  rintro e w6 ⟨rfl, hb6⟩
  have H7o : Hid (Blk w6 (w.heap.size) #[.slice ao no co] 25) := H6o.out.next hb6
  have H7p : Hid (Blk w6 (w2.heap.size) #[.slice ap no cp] 25) := H6p.out.next hb6
  have H7B : Hid (Below w.heap.size w w6) := bel_step H6B.out hb6
  have H7Ca : Hid (RowU w6 a n l) := H6Ca.out.below hb6
  have H7Cc : Hid (Came w6 ao no co os) := H6Cc.out.below hb6
  have H7Cd : Hid (RowU w6 a1 n l) := H6Cd.out.below hb6
  have H7Cp : Hid (Came w6 ap no cp os) := H6Cp.out.below hb6
  have H7Cg : Hid (Wg w6 y1 k1 d1 ls) := H6Cg.out.below hb6
  clear H6o H6p H6Ca H6Cc H6Cd H6Cp H6Cg H6B hb6 HSW
  have q_o_0 : w6.cell? ⟨w.heap.size, 0, none⟩ = some (.slice ao no co) := H7o.out.cell 0
  have q_p_0 : w6.cell? ⟨w2.heap.size, 0, none⟩ = some (.slice ap no cp) := H7p.out.cell 0
  go_wp2_with (first
    | (refine wp_whole rfl 25 _ rfl (w.heap.size) rfl 25 #[.slice ao no co] _ H7o.out Tryz.underlying25 rfl (by kernel_rfl) ?_)
    | (refine wp_wholeG (by rfl) 25 _ rfl (w.heap.size) rfl 25 #[.slice ao no co] _ H7o.out Tryz.underlying25 rfl (by kernel_rfl) ?_)
    | (refine wp_whole rfl 25 _ rfl (w2.heap.size) rfl 25 #[.slice ap no cp] _ H7p.out Tryz.underlying25 rfl (by kernel_rfl) ?_)
    | (refine wp_wholeG (by rfl) 25 _ rfl (w2.heap.size) rfl 25 #[.slice ap no cp] _ H7p.out Tryz.underlying25 rfl (by kernel_rfl) ?_)
    | fail)
  clear q_o_0 q_p_0
  refine (HSO.out _ _ _ H7Cc.out H7Cp.out).mono ?_
  rintro e w7 ⟨rfl, hb7⟩
  have H8o : Hid (Blk w7 (w.heap.size) #[.slice ao no co] 25) := H7o.out.next hb7
  have H8p : Hid (Blk w7 (w2.heap.size) #[.slice ap no cp] 25) := H7p.out.next hb7
  have H8B : Hid (Below w.heap.size w w7) := bel_step H7B.out hb7
  have H8Ca : Hid (RowU w7 a n l) := H7Ca.out.below hb7
  have H8Cc : Hid (Came w7 ao no co os) := H7Cc.out.below hb7
  have H8Cd : Hid (RowU w7 a1 n l) := H7Cd.out.below hb7
  have H8Cp : Hid (Came w7 ap no cp os) := H7Cp.out.below hb7
  have H8Cg : Hid (Wg w7 y1 k1 d1 ls) := H7Cg.out.below hb7
  clear H7o H7p H7Ca H7Cc H7Cd H7Cp H7Cg H7B hb7 HSO
  go_wp2_with fail
  go_ret
  exact ⟨rfl, H8B.out⟩

end Go.Proofs.YtgipkpkjoicehaaGreatDoor.pkt

/- A meter that came in: its numbers. -/
namespace Go.Proofs.YtgipkpkjoicehaaGreatDoor.met
open Go.ChangeShapes Go.WideShapes Go.ChangeAt Go.RowKit Go.Deep
set_option maxRecDepth 100000

theorem u64_nat {z : Int} (h : (Lit.int .u64 z).wf = true) : ∃ y : Nat, z = (y : Int) ∧ y < 18446744073709551616 := by
  have h2 : 0 ≤ z ∧ z < 18446744073709551616 := by
    simp only [Lit.wf, Bool.and_eq_true, decide_eq_true_eq] at h
    rw [show IntKind.u64.min = 0 from by decide, show IntKind.u64.max = 18446744073709551615 from by decide] at h
    omega
  exact ⟨z.toNat, by omega, by omega⟩
theorem open_met {H : Type} {enc : TypeId × Value → H} {W : World} {r : Reach} {b0 b1 : Nat} {spare : Nat → Bool} {held : Bool} {v : Value} {d : DataW H} {ps : List MemPlace}
    (hval : Value.okWide Tryz.prog W r b0 40 v) (h : DataW.Trod enc Tryz.prog W b1 spare held 40 v d ps) :
    ∃ m : Mt, v = m.v ∧ m.b < 18446744073709551616 := by
  have hu := Tryz.underlying40
  have hc : Tryz.prog.cellsOf 40 = 7 := by kernel_rfl
  have ci : Tryz.prog.cellsOf 3 = 1 := by kernel_rfl
  have cu : Tryz.prog.cellsOf 36 = 1 := by kernel_rfl
  have cw : Tryz.prog.cellsOf 38 = 2 := by kernel_rfl
  obtain ⟨cs, rfl, hsz⟩ := okWide_struct hu hval
  rw [hc] at hsz
  obtain ⟨c0, c1, c2, c3, c4, c5, c6, rfl⟩ : ∃ c0 c1 c2 c3 c4 c5 c6, cs = #[c0, c1, c2, c3, c4, c5, c6] := by
    cases cs with
    | mk l => match l, hsz with
      | [c0, c1, c2, c3, c4, c5, c6], _ => exact ⟨c0, c1, c2, c3, c4, c5, c6, rfl⟩
  obtain ⟨fuel, hf⟩ := h
  obtain ⟨xs, n, _, _, _, hlen, hg⟩ := DataW.trod_struct hu hf
  match xs, hlen with
  | [y0, y1, y2, y3, y4, y5], _ =>
    have g0 := hg 0 _ rfl
    have g1 := hg 1 _ rfl
    have g2 := hg 2 _ rfl
    have g3 := hg 3 _ rfl
    have g4 := hg 4 _ rfl
    have g5 := hg 5 _ rfl
    simp [Value.cells, ci, cw] at g0 g1 g2 g3 g4 g5
    obtain ⟨x0, e0, -, _⟩ := DataW.trod_int Tryz.underlying3 g0
    obtain ⟨x1, e1, -, _⟩ := DataW.trod_int Tryz.underlying3 g1
    obtain ⟨x2, e2, -, _⟩ := DataW.trod_int Tryz.underlying3 g2
    obtain ⟨x5, e5, -, _⟩ := DataW.trod_int Tryz.underlying3 g4
    obtain ⟨x6, e6, -, _⟩ := DataW.trod_int Tryz.underlying3 g5
    obtain ⟨z0, z1, k, _, _, q0, q1⟩ := trod_struct2 Tryz.underlying38 g3
    simp [ci, cu] at q0 q1
    obtain ⟨x3, e3, -, _⟩ := DataW.trod_int Tryz.underlying3 q0
    obtain ⟨x4, e4, -, w4⟩ := DataW.trod_int Tryz.underlying36 q1
    simp at e0 e1 e2 e3 e4 e5 e6
    subst e0 e1 e2 e3 e4 e5 e6
    obtain ⟨y, rfl, hy⟩ := u64_nat w4
    exact ⟨⟨x0, x1, x2, x3, y, x5, x6⟩, rfl, hy⟩
/-- A word is a word. -/
theorem _root_.Go.Proofs.YtgipkpkjoicehaaGreatDoor.cell.word_of {z : Int} (h : (Lit.int .u32 z).wf = true) : 0 ≤ z ∧ z < 4294967296 := by
  simp only [Lit.wf, Bool.and_eq_true, decide_eq_true_eq] at h
  rw [show IntKind.u32.min = 0 from by decide, show IntKind.u32.max = 4294967295 from by decide] at h
  omega
/-- Four numbers that came in. -/
def wf4i (x y z u : Int) : Prop := (Lit.int .i64 x).wf = true ∧ (Lit.int .i64 y).wf = true ∧ (Lit.int .i64 z).wf = true ∧ (Lit.int .i64 u).wf = true
theorem open_four {H : Type} {enc : TypeId × Value → H} {W : World} {r : Reach} {b0 b1 : Nat} {spare : Nat → Bool} {held : Bool} {t : TypeId} {f0 f1 f2 f3 : Field} {v : Value} {d : DataW H} {ps : List MemPlace}
    (hs : Tryz.prog.underlying t = some (.struct #[f0, f1, f2, f3])) (hone : oneCellFields Tryz.prog #[f0, f1, f2, f3] = true) (hC : Tryz.prog.cellsOf t = 4) (e0 : f0.type = 3) (e1 : f1.type = 3) (e2 : f2.type = 3) (e3 : f3.type = 3)
    (hval : Value.okWide Tryz.prog W r b0 t v) (h : DataW.Trod enc Tryz.prog W b1 spare held t v d ps) : ∃ x y z u, v = .agg #[.int .i64 x, .int .i64 y, .int .i64 z, .int .i64 u] ∧ wf4i x y z u := by
  obtain ⟨v0, v1, v2, v3, y0, y1, y2, y3, n, rfl, -, -, h0, h1, h2, h3⟩ := Joins.open_agg4 hs hone hC hval h
  rw [e0] at h0
  rw [e1] at h1
  rw [e2] at h2
  rw [e3] at h3
  obtain ⟨x0, q0, -, w0⟩ := DataW.trod_int Tryz.underlying3 h0
  obtain ⟨x1, q1, -, w1⟩ := DataW.trod_int Tryz.underlying3 h1
  obtain ⟨x2, q2, -, w2⟩ := DataW.trod_int Tryz.underlying3 h2
  obtain ⟨x3, q3, -, w3⟩ := DataW.trod_int Tryz.underlying3 h3
  simp at q0 q1 q2 q3
  subst q0 q1 q2 q3
  exact ⟨x0, x1, x2, x3, rfl, w0, w1, w2, w3⟩

end Go.Proofs.YtgipkpkjoicehaaGreatDoor.met

/- Oracles and lists of fours that came in: what the frame hands over. -/
namespace Go.Proofs.YtgipkpkjoicehaaGreatDoor.ora
open Go.ChangeShapes Go.WideShapes Go.ChangeAt Go.RowKit Go.Deep
set_option maxRecDepth 100000
set_option linter.unusedVariables false

/-- A slice of structs of four numbers, opened. -/
theorem fours {H : Type} {enc : TypeId × Value → H} {w : World} {base : Nat} {held : Bool} {t e : TypeId} {f0 f1 f2 f3 : Field} {fuel : Nat} {cs : List Value} {x : DataW H × List MemPlace}
    (ht : Tryz.prog.underlying t = some (.slice e)) (he : Tryz.prog.underlying e = some (.struct #[f0, f1, f2, f3])) (ce : Tryz.prog.cellsOf e = 4)
    (o0 : f0.offset = 0) (o1 : f1.offset = 1) (o2 : f2.offset = 2) (o3 : f3.offset = 3) (t0 : f0.type = 3) (t1 : f1.type = 3) (t2 : f2.type = 3) (t3 : f3.type = 3)
    (h : DataW.trod enc Tryz.prog w base (fun _ => true) held fuel t cs = some x) :
    (cs = [.slice none 0 0] ∧ x = (.nil, [])) ∨
    ∃ (a : Addr) (len cap : Nat) (E S : List (DataW H)) (pl : List MemPlace) (f : Nat → Pr), cs = [.slice (some a) len cap] ∧ len ≤ cap ∧ x = (.slice E S, pl) ∧ E.length + S.length = cap ∧
      ∀ i, i < cap → w.cell? (a.add (i * 4)) = some (.int .i64 (f i).m) ∧ w.cell? (a.add (i * 4 + 1)) = some (.int .i64 (f i).r) ∧ w.cell? (a.add (i * 4 + 2)) = some (.int .i64 (f i).b) ∧ w.cell? (a.add (i * 4 + 3)) = some (.int .i64 (f i).t) ∧ wfP (f i) := by
  have c1 : Tryz.prog.cellsOf 3 = 1 := by kernel_rfl
  rcases open_slice ht h with h0 | ⟨a, len, cap, m, n, D, Pl, rfl, hb, hl, hm, hmm, rfl, hx⟩
  · exact Or.inl h0
  right
  simp only [if_true] at hmm
  subst hmm
  have each : ∀ i, ∃ p : Pr, i < m → w.cell? (a.add (i * 4)) = some (.int .i64 p.m) ∧ w.cell? (a.add (i * 4 + 1)) = some (.int .i64 p.r) ∧ w.cell? (a.add (i * 4 + 2)) = some (.int .i64 p.b) ∧ w.cell? (a.add (i * 4 + 3)) = some (.int .i64 p.t) ∧ wfP p := by
    intro i
    by_cases hi : i < m
    · obtain ⟨cs', h1, h2⟩ := hx i hi
      rw [ce] at h1
      obtain ⟨_, hlen, hcell⟩ := World.cells?_some h1
      obtain ⟨y0, y1, y2, y3, k, _, _, g0, g1, g2, g3⟩ := Joins.trod_struct4 he h2
      match cs', hlen with
      | [v0, v1, v2, v3], _ =>
        rw [o0, t0, c1] at g0
        rw [o1, t1, c1] at g1
        rw [o2, t2, c1] at g2
        rw [o3, t3, c1] at g3
        obtain ⟨z0, e0, _, w0⟩ := DataW.trod_int Tryz.underlying3 g0
        obtain ⟨z1, e1, _, w1⟩ := DataW.trod_int Tryz.underlying3 g1
        obtain ⟨z2, e2, _, w2⟩ := DataW.trod_int Tryz.underlying3 g2
        obtain ⟨z3, e3, _, w3⟩ := DataW.trod_int Tryz.underlying3 g3
        simp at e0 e1 e2 e3
        have k0 := hcell 0 (by omega)
        have k1 := hcell 1 (by omega)
        have k2 := hcell 2 (by omega)
        have k3 := hcell 3 (by omega)
        rw [add_add] at k0 k1 k2 k3
        simp at k0 k1 k2 k3
        refine ⟨⟨z0, z1, z2, z3⟩, fun _ => ⟨?_, ?_, ?_, ?_, w0, w1, w2, w3⟩⟩
        · rw [k0, e0]
        · rw [k1, e1]
        · rw [k2, e2]
        · rw [k3, e3]
    · exact ⟨pr0, fun hh => absurd hh hi⟩
  exact ⟨a, len, m, _, _, _, fun i => Classical.choose (each i), rfl, hl, rfl, by simp; omega, fun i hi => Classical.choose_spec (each i) hi⟩

/-- The first of them, as a list. -/
theorem fours_row {w : World} {a : Addr} {len cap : Nat} (hl : len ≤ cap) (f : Nat → Pr)
    (h : ∀ i, i < cap → w.cell? (a.add (i * 4)) = some (.int .i64 (f i).m) ∧ w.cell? (a.add (i * 4 + 1)) = some (.int .i64 (f i).r) ∧ w.cell? (a.add (i * 4 + 2)) = some (.int .i64 (f i).b) ∧ w.cell? (a.add (i * 4 + 3)) = some (.int .i64 (f i).t) ∧ wfP (f i)) :
    RowP w (some a) len ((List.range len).map f) ∧ RowA w (some a) len ((List.range len).map f) := by
  have key : ∀ i, i < len → ∃ b off, a = ⟨b, off, none⟩ ∧ PrAt w b (off + i * 4) (((List.range len).map f).getD i pr0) ∧ wfP (((List.range len).map f).getD i pr0) := by
    intro i hi
    have h0 := (h 0 (by omega)).1
    have h1 := h i (by omega)
    obtain ⟨b, off, spot⟩ := a
    have hs : spot = none := by simpa [Addr.add] using World.cell?_spot h0
    subst hs
    rw [Addr.add_lit, Addr.add_lit, Addr.add_lit, Addr.add_lit, ← Nat.add_assoc, ← Nat.add_assoc, ← Nat.add_assoc] at h1
    have e : ((List.range len).map f).getD i pr0 = f i := by simp [List.getD, hi]
    rw [e]
    exact ⟨b, off, rfl, ⟨h1.1, h1.2.1, h1.2.2.1, h1.2.2.2.1⟩, h1.2.2.2.2⟩
  constructor
  · refine ⟨by simp, ?_⟩
    by_cases hz : len = 0
    · exact .inl hz
    · obtain ⟨b, off, e, _⟩ := key 0 (by omega)
      refine .inr ⟨b, off, by rw [e], fun i hi => ?_⟩
      obtain ⟨b', off', e', h', _⟩ := key i hi
      rw [e] at e'
      obtain ⟨rfl, rfl, _⟩ := Addr.mk.inj e'
      exact h'
  · intro i hi
    obtain ⟨b, off, e, h1, h2⟩ := key i hi
    exact ⟨b, off, by rw [e], h1, h2⟩

theorem open_ora {H : Type} {enc : TypeId × Value → H} {W : World} {r : Reach} {b0 b1 : Nat} {held : Bool} {v : Value} {d : DataW H} {ps : List MemPlace}
    (hval : Value.okWide Tryz.prog W r b0 25 v) (h : DataW.Trod enc Tryz.prog W b1 (fun _ => true) held 25 v d ps) (hs : ∀ n ∈ d.weights Tryz.prog 25, n ≤ reachBytes) :
    ∃ (a : Option Addr) (len cap : Nat) (l : List Pr), v = .agg #[.slice a len cap] ∧ Came W a len cap l := by
  have hu := Tryz.underlying25
  have hc : Tryz.prog.cellsOf 25 = 1 := by kernel_rfl
  have hc2 : Tryz.prog.cellsOf 23 = 1 := by kernel_rfl
  obtain ⟨cs, rfl, hsz⟩ := okWide_struct hu hval
  rw [hc] at hsz
  obtain ⟨v0, rfl⟩ : ∃ v0, cs = #[v0] := by
    cases cs with
    | mk l => match l, hsz with
      | [v0], _ => exact ⟨v0, rfl⟩
  obtain ⟨fuel, hf⟩ := h
  obtain ⟨y0, n, hx, _, g0⟩ := trod_struct1 hu hf
  simp only [Prod.mk.injEq] at hx
  obtain ⟨rfl, rfl⟩ := hx
  simp only [Value.cells, List.drop_zero] at g0
  rw [hc2] at g0
  simp only [List.take_succ_cons, List.take_zero] at g0
  rcases fours Tryz.underlying23 Tryz.underlying55 (by kernel_rfl) rfl rfl rfl rfl rfl rfl rfl rfl g0 with ⟨hcs, _⟩ | ⟨a, len, cap, E, S, pl, f, hcs, hl, hy, hES, hall⟩
  · simp at hcs
    subst hcs
    exact ⟨none, 0, 0, [], rfl, RowP.nil _ _, fun _ => rfl, Nat.le_refl _, by decide⟩
  · simp at hcs
    subst hcs
    subst hy
    have h1 := hs ((E.length + S.length) * Tryz.prog.bytesOf 55) (by simp [DataW.weights, hu, DataW.weightsEach, Tryz.underlying23])
    rw [show Tryz.prog.bytesOf 55 = 32 from by kernel_rfl, hES] at h1
    simp only [reachBytes] at h1
    exact ⟨some a, len, cap, _, rfl, (fours_row hl f hall).1, fun h => (by cases h), hl, by omega⟩

end Go.Proofs.YtgipkpkjoicehaaGreatDoor.ora

/- The two tables of token, out of what a row says of them; raw numbers that came in. -/
namespace Go.Proofs.YtgipkpkjoicehaaGreatDoor.token
open Go.ChangeShapes Go.WideShapes Go.ChangeAt Go.RowKit Go.Deep
set_option maxRecDepth 100000

theorem laid_tail {P : Program} {x : String × DataW Unit} {rest : List (String × DataW Unit)} {W : World} (h : laidMet P (x :: rest) W) : laidMet P rest W := by
  obtain ⟨ps, ⟨g, t, cs, fuel, p, q, _, _, _, _, hrest, hps⟩, hnd, hcell⟩ := h
  subst hps
  exact ⟨q, hrest, (List.nodup_append.1 hnd).2.1, fun b off hm => hcell b off (List.mem_append_right _ hm)⟩
theorem ttab_of {W : World} {n1 n2 : String} (h1 : Tryz.prog.globalNamed n1 = some 0) (h2 : Tryz.prog.globalNamed n2 = some 1)
    (h : laidMet Tryz.prog [(n1, .agg [.agg [.lit (.int .i64 57), .lit (.int .i64 3)], .agg [.lit (.int .i64 37), .lit (.int .i64 20)], .agg [.lit (.int .i64 16), .lit (.int .i64 21)], .agg [.lit (.int .i64 0), .lit (.int .i64 16)]]),
      (n2, .agg [.agg [.lit (.int .i64 1), .lit (.int .i64 2097151)], .agg [.lit (.int .i64 0), .lit (.int .i64 0)], .agg [.lit (.int .i64 1), .lit (.int .i64 15)], .agg [.lit (.int .i64 0), .lit (.int .i64 0)]])] W) : TTab W :=
  ⟨eight_of h1 (by kernel_rfl) Tryz.underlying103 (by kernel_rfl) (by kernel_rfl) Tryz.underlying102 (by kernel_rfl) Tryz.underlying3 rfl rfl h,
   eight_of h2 (by kernel_rfl) Tryz.underlying109 (by kernel_rfl) (by kernel_rfl) Tryz.underlying107 (by kernel_rfl) Tryz.underlying3 rfl rfl (laid_tail h)⟩

end Go.Proofs.YtgipkpkjoicehaaGreatDoor.token
