/- The program's words of a meter. -/
import Derived.Test.YtnhidiefchamlaaDoorMpM
import Derived.Test.YtnhidiefchamlaaDoorMtDW
import Derived.Test.YtnhidiefchamlaaDoorMjW
namespace Go.Proofs.YtnhidiefchamlaaDoor.met
open Go.RowKit Go.Proofs.YtnhidiefchamlaaDoor.cell
set_option maxRecDepth 100000
set_option linter.unusedVariables false
set_option linter.unusedSimpArgs false

theorem wrap_u32' (n : Int) : IntKind.u32.wrap n = n % 4294967296 := by simp [IntKind.wrap, IntKind.bits, IntKind.signed]
theorem or32n (a b : Nat) (ha : a < 2 ^ 32) (hb : b < 2 ^ 32) : bits .or .u32 (a : Int) (b : Int) = ((a ||| b : Nat) : Int) := by
  have h := Nat.or_lt_two_pow ha hb
  have o : ∀ x : Nat, x < 2 ^ 32 → (BitVec.ofInt 32 (x : Int)).toNat = x := fun x hx => by rw [BitVec.ofInt_natCast, BitVec.toNat_ofNat]; exact Nat.mod_eq_of_lt hx
  show IntKind.u32.wrap ((BitVec.ofInt 32 (a : Int) ||| BitVec.ofInt 32 (b : Int)).toNat : Int) = _
  rw [BitVec.toNat_or, o a ha, o b hb, wrap_u32']
  omega
/-- A byte is put above the lower ones. -/
theorem or_above (i : Nat) (A n : Int) (hA : 0 ≤ A) (hA2 : A < 2 ^ i) (hn : 0 ≤ n) (h : A + n * 2 ^ i < 4294967296) : bits .or .u32 A (n * 2 ^ i) = A + n * 2 ^ i := by
  obtain ⟨a, rfl⟩ := Int.eq_ofNat_of_zero_le hA
  obtain ⟨m, rfl⟩ := Int.eq_ofNat_of_zero_le hn
  have e : ((m : Int) * 2 ^ i) = ((m * 2 ^ i : Nat) : Int) := by simp
  have ha : a < 2 ^ i := by
    have e2 : ((2 : Int) ^ i) = ((2 ^ i : Nat) : Int) := by simp
    rw [e2] at hA2
    exact Int.ofNat_lt.1 hA2
  rw [e] at h ⊢
  rw [or32n a (m * 2 ^ i) (by omega) (by omega)]
  have := Nat.two_pow_add_eq_or_of_lt ha m
  rw [Nat.or_comm, Nat.mul_comm m, ← this]
  omega

set_option maxHeartbeats 2000000 in
theorem pwords (m : Mt) (w : World) (hb : m.b < 18446744073709551616) : Calls Tryd.prog 15 #[m.v] w fun e w' => WordsPost w m e w' := by
  have HMM : Hid (∀ W, Calls Tryd.prog 25 #[m.v] W fun e w' => Told W m.may e w') := fun W => pmay_any m W hb
  have hN := Blk.new w m.cells 26
  have HB0 : Hid (Below w.heap.size w (w.alloc (.cells m.cells 26))) := (Below.refl _ _).alloc (Nat.le_refl _) _
  obtain ⟨me, rev, cr, h, b, bad, lock⟩ := m
  unfold Mt.v at *
  unfold Mt.cells at *
  simp only [] at HMM HB0 hN hb ⊢
  have c0 := hN.cell 0
  have c1 := hN.cell 1
  have c2 := hN.cell 2
  have c3 := hN.cell 3
  have c4 := hN.cell 4
  have c5 := hN.cell 5
  have c6 := hN.cell 6
  have HN : Hid (Blk (w.alloc (.cells #[.int .i64 me, .int .i64 rev, .int .i64 cr, .int .i64 h, .int .u64 (b : Int), .int .i64 bad, .int .i64 lock] 26)) w.heap.size #[.int .i64 me, .int .i64 rev, .int .i64 cr, .int .i64 h, .int .u64 (b : Int), .int .i64 bad, .int .i64 lock] 26) := hN
  clear hN
  go_enter Tryd.func15, Tryd.ntmps15
  go_wp2_with fail
  refine (HMM.out _).mono ?_
  rintro e w1 ⟨r, rfl, hr, hb1⟩
  have hM := HN.out.next hb1
  have HB1 : Hid (Below w.heap.size w w1) := bel_step HB0.out hb1
  clear c0 c1 c2 c3 c4 c5 c6 HN hb1 HB0 HMM
  have c0 := hM.cell 0
  have c1 := hM.cell 1
  have c2 := hM.cell 2
  have c3 := hM.cell 3
  have c4 := hM.cell 4
  have c5 := hM.cell 5
  have c6 := hM.cell 6
  clear hM
  cases r with
  | false =>
    have HM : Hid (¬ Mt.may ⟨me, rev, cr, h, b, bad, lock⟩) := fun hm => by have := hr.2 hm; cases this
    clear hr
    go_wp2_with fail
    go_ret2
    exact ⟨none, 0, 0, [], 5, rfl, RowU.nil _ _, fun _ => rfl, Nat.le_refl _, WordsIs.state HM.out, HB1.out⟩
  | true =>
    have hm := hr.1 rfl
    have HM : Hid (Mt.may ⟨me, rev, cr, h, b, bad, lock⟩) := hm
    obtain ⟨m0, m1⟩ := hm.me
    obtain ⟨r0, r1⟩ := hm.rev
    obtain ⟨k0, k1⟩ := hm.cr
    obtain ⟨b0, b1⟩ := hm.bad
    obtain ⟨l0, l1⟩ := hm.lock
    obtain ⟨g0, g1⟩ := may_high hm
    simp only [] at m0 m1 r0 r1 k0 k1 b0 b1 l0 l1 g0 g1
    have HW : Hid (∀ F : Int, F = me + rev * 256 + bad * 65536 + lock * 16777216 → WordsIs ⟨me, rev, cr, h, b, bad, lock⟩ [cr, F, h, (b : Int) % 4294967296, (b : Int) / 4294967296] 0) := fun F hF => by
      have := WordsIs.ok hm
      have e : F = four ⟨me, rev, cr, h, b, bad, lock⟩ := by rw [hF]; unfold four; simp only []; omega
      rw [e]
      exact this
    have o0 : bits .or .u32 0 me = me := by have := or_above 0 0 me (by omega) (by decide) (by omega) (by omega); simpa using this
    have o1 : bits .or .u32 me (rev * 256) = me + rev * 256 := or_above 8 me rev (by omega) (by show me < 256; omega) (by omega) (by show me + rev * 256 < _; omega)
    have o2 : bits .or .u32 (me + rev * 256) (bad * 65536) = me + rev * 256 + bad * 65536 := or_above 16 _ bad (by omega) (by show _ < (65536 : Int); omega) (by omega) (by show _ + bad * 65536 < _; omega)
    have o3 : bits .or .u32 (me + rev * 256 + bad * 65536) (lock * 16777216) = me + rev * 256 + bad * 65536 + lock * 16777216 := or_above 24 _ lock (by omega) (by show _ < (16777216 : Int); omega) (by omega) (by show _ + lock * 16777216 < _; omega)
    have x0 : ∀ W : World, (Instr.index 60 (.agg #[.int .i64 me, .int .i64 rev, .int .i64 bad, .int .i64 lock]) (.int .i64 0)).run Tryd.prog W = .ok (.int .i64 me) W := fun W => by kernel_rfl
    have x1 : ∀ W : World, (Instr.index 60 (.agg #[.int .i64 me, .int .i64 rev, .int .i64 bad, .int .i64 lock]) (.int .i64 1)).run Tryd.prog W = .ok (.int .i64 rev) W := fun W => by kernel_rfl
    have x2 : ∀ W : World, (Instr.index 60 (.agg #[.int .i64 me, .int .i64 rev, .int .i64 bad, .int .i64 lock]) (.int .i64 2)).run Tryd.prog W = .ok (.int .i64 bad) W := fun W => by kernel_rfl
    have x3 : ∀ W : World, (Instr.index 60 (.agg #[.int .i64 me, .int .i64 rev, .int .i64 bad, .int .i64 lock]) (.int .i64 3)).run Tryd.prog W = .ok (.int .i64 lock) W := fun W => by kernel_rfl
    clear hr hm
    go_wp2_with fail
    go_loopw [4, 20] (fun v j wr => wr = w1 ∧ ((v = .int .u32 0 ∧ j = .int .i64 0) ∨ (v = .int .u32 me ∧ j = .int .i64 1) ∨ (v = .int .u32 (me + rev * 256) ∧ j = .int .i64 2) ∨ (v = .int .u32 (me + rev * 256 + bad * 65536) ∧ j = .int .i64 3) ∨ (v = .int .u32 (me + rev * 256 + bad * 65536 + lock * 16777216) ∧ j = .int .i64 4))) (fun _ j _ => (4 - intOf j).toNat)
    case atStart => exact ⟨rfl, .inl ⟨rfl, rfl⟩⟩
    case round =>
      obtain ⟨rfl, ⟨rfl, rfl⟩ | ⟨rfl, rfl⟩ | ⟨rfl, rfl⟩ | ⟨rfl, rfl⟩ | ⟨rfl, rfl⟩⟩ := hrel
      · go_wp2_with fail
        go_roundw
        case rel => exact ⟨(by first | rfl | trivial), .inr (.inl ⟨rfl, rfl⟩)⟩
        case measure => simp [intOf]
      · go_wp2_with fail
        go_roundw
        case rel => exact ⟨(by first | rfl | trivial), .inr (.inr (.inl ⟨rfl, rfl⟩))⟩
        case measure => simp [intOf]
      · go_wp2_with fail
        go_roundw
        case rel => exact ⟨(by first | rfl | trivial), .inr (.inr (.inr (.inl ⟨rfl, rfl⟩)))⟩
        case measure => simp [intOf]
      · go_wp2_with fail
        go_roundw
        case rel => exact ⟨(by first | rfl | trivial), .inr (.inr (.inr (.inr ⟨rfl, rfl⟩)))⟩
        case measure => simp [intOf]
      · generalize hF : me + rev * 256 + bad * 65536 + lock * 16777216 = F at *
        have HF : Hid (F = me + rev * 256 + bad * 65536 + lock * 16777216) := hF.symm
        clear hF o0 o1 o2 o3
        go_wp2_with fail
        go_ret2
        exact ⟨_, 5, 5, _, 0, rfl, row5 _ _ _ _ _ _ _, (fun h => by cases h), Nat.le_refl _, HW.out F (by first | rfl | exact HF.out), HB1.out.alloc HB1.out.size _⟩
theorem kwords {I : World → Prop} : KWords I := fun W m _ hb => pwords m W hb

end Go.Proofs.YtnhidiefchamlaaDoor.met
