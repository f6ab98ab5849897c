/- Twenty digits, read. -/
import Derived.Test.YtlicdeppfhmfjaaGreatDoorTkWn
import Derived.Test.YtlicdeppfhmfjaaGreatDoorPlus
import Derived.Test.YtlicdeppfhmfjaaGreatDoorBlk2
namespace Go.Proofs.YtlicdeppfhmfjaaGreatDoor.token
open Go.Proofs.YtlicdeppfhmfjaaGreatDoor.words Go.Proofs.YtlicdeppfhmfjaaGreatDoor.check
open Go.RowKit
set_option linter.unusedSimpArgs false

theorem plus_wn (a b c V m : Nat) (w : World) (h : WN a b c V) (hm : m < 4294967296) (hv : V + m < 79228162514264337593543950336) :
    Calls Tryz.prog 90 #[.agg #[.int .u32 (a : Int), .int .u32 (b : Int), .int .u32 (c : Int)], .int .u32 (m : Int)] w fun e w' =>
      ∃ (a' b' c' : Nat) (o : Int), e = .returned (.tuple #[.agg #[.int .u32 (a' : Int), .int .u32 (b' : Int), .int .u32 (c' : Int)], .int .u32 o]) ∧ WN a' b' c' (V + m) ∧ Below w.heap.size w w' := by
  have hk := wn_ok h
  have ht := plus_any ⟨a, b, c⟩ m w hk.1 (by omega) (by omega)
  obtain ⟨a', b', c', he, hn⟩ := wn_of (X := plusW ⟨a, b, c⟩ m) (carry3_ok _ _ _) (V := V + m) (by
    have h1 := plus_val ⟨a, b, c⟩ m
    have h2 := plus_over hk.1 (x := (m : Int)) (by omega) (by omega)
    have h3 := W3.bd (carry3_ok ((m : Int) + (a : Int)) b c)
    rw [hk.2] at h1
    have h4 : 0 ≤ (plusW ⟨a, b, c⟩ m).val := h3.1
    unfold top at h1
    omega)
  refine ht.mono ?_
  rintro e w' ⟨rfl, hb⟩
  exact ⟨a', b', c', _, by rw [he], hn, hb⟩

/-- While digits are read: k of them are. -/
structure Rd (w wr : World) (s : ByteArray) (k a b c : Nat) : Prop where
  below : Below w.heap.size w wr
  res : Blk wr w.heap.size #[.int .u32 0, .int .u32 0, .int .u32 0] 85
  num : Blk wr (w.heap.size + 1) #[.int .u32 (a : Int), .int .u32 (b : Int), .int .u32 (c : Int)] 85
  it : It wr (w.heap.size + 1 + 1) s k
  wn : WN a b c (dv (s.data.toList.take k))

/-- What read gives back for twenty bytes. -/
def ReadPost (w : World) (s : ByteArray) (e : Ending) (w' : World) : Prop :=
  Below w.heap.size w w' ∧ ((allD s.data.toList = true ∧ ∃ a b c : Nat, e = .returned (.tuple #[.agg #[.int .u32 (a : Int), .int .u32 (b : Int), .int .u32 (c : Int)], .int .i64 0]) ∧ WN a b c (dv s.data.toList)) ∨
    (allD s.data.toList = false ∧ e = .returned (.tuple #[.agg #[.int .u32 0, .int .u32 0, .int .u32 0], .int .i64 7])))

set_option maxHeartbeats 400000 in
theorem read_len (s : ByteArray) (w : World) (h : s.size ≠ 20) :
    Calls Tryz.prog 53 #[.string s] w fun e w' => e = .returned (.tuple #[.agg #[.int .u32 0, .int .u32 0, .int .u32 0], .int .i64 6]) ∧ Below w.heap.size w w' := by
  have hd : ((s.size : Int) != 20) = true := by simp; omega
  have hX := Blk.new w #[.int .u32 0, .int .u32 0, .int .u32 0] 85
  have HB : Hid (Below w.heap.size w (w.alloc (.cells #[.int .u32 0, .int .u32 0, .int .u32 0] 85))) := bel_box _ _
  have R0 : Hid (_ = _) := hX.cell 0
  have R1 : Hid (_ = _) := hX.cell 1
  have R2 : Hid (_ = _) := hX.cell 2
  clear h hX
  go_enter Tryz.func53, Tryz.ntmps53
  go_wp2_with fail
  refine bodyPost_ret (v := .tuple #[.agg #[.int .u32 0, .int .u32 0, .int .u32 0], .int .i64 6]) (by simp [results, Tryz.results53, R0.out, R1.out, R2.out, go_sem]) rfl ⟨rfl, HB.out⟩

set_option maxHeartbeats 2000000 in
theorem read_any (s : ByteArray) (w : World) (h : s.size = 20) :
    Calls Tryz.prog 53 #[.string s] w fun e w' => ReadPost w s e w' := by
  have hd : ((s.size : Int) != 20) = false := by simp; omega
  have hb0 : Below w.heap.size w (((w.alloc (.cells #[.int .u32 0, .int .u32 0, .int .u32 0] 85)).alloc (.cells #[.int .u32 0, .int .u32 0, .int .u32 0] 85)).iter s 0) := ((bel_box _ _).alloc (by simp) _).alloc (by simp; omega) _
  have HR0 : Hid (Rd w (((w.alloc (.cells #[.int .u32 0, .int .u32 0, .int .u32 0] 85)).alloc (.cells #[.int .u32 0, .int .u32 0, .int .u32 0] 85)).iter s 0) s 0 0 0 0) :=
    ⟨hb0, ((Blk.new _ _ _).alloc _).alloc _, (Blk.new1 _ _ _ _).alloc _, by
      have := World.iter_heap ((w.alloc (.cells #[.int .u32 0, .int .u32 0, .int .u32 0] 85)).alloc (.cells #[.int .u32 0, .int .u32 0, .int .u32 0] 85)) s 0
      rwa [show ((w.alloc (.cells #[.int .u32 0, .int .u32 0, .int .u32 0] 85)).alloc (.cells #[.int .u32 0, .int .u32 0, .int .u32 0] 85)).heap.size = w.heap.size + 1 + 1 by simp] at this, wn_zero⟩
  have HS : Hid (s.size = 20) := h
  clear h hb0
  go_enter Tryz.func53, Tryz.ntmps53
  go_wp2_with fail
  generalize (((w.alloc (.cells #[.int .u32 0, .int .u32 0, .int .u32 0] 85)).alloc (.cells #[.int .u32 0, .int .u32 0, .int .u32 0] 85)).iter s 0) = W0 at *
  go_loopw [] (fun wr => ∃ k a b c : Nat, k ≤ s.size ∧ allD (s.data.toList.take k) = true ∧ Rd w wr s k a b c) (fun wr => s.size - wr.iterPos (w.heap.size + 1 + 1))
  case atStart => exact ⟨0, 0, 0, 0, Nat.zero_le _, rfl, HR0.out⟩
  case round =>
    obtain ⟨k, a, b, c, hk, hok, hl⟩ := hrel
    have HK : Hid (allD (s.data.toList.take k) = true) := hok
    have HP0 : Hid (wr.iterPos (w.heap.size + 1 + 1) = k) := hl.it.pos
    clear hok
    by_cases hp : k < s.size
    · by_cases ha : (s[k]'hp).toNat < 128
      · have hnx : ∀ ty, (Instr.next (.pointer (some ⟨w.heap.size + 1 + 1, 0, none⟩)) true ty).run Tryz.prog wr = _ := fun ty => Lib.run_next_ascii_at wr (w.heap.size + 1 + 1) s k ty hl.it hp ha
        have HN : Hid (isD s[k] = false → allD s.data.toList = false) := allD_take_no s k hp
        have HL : Hid (((s[k].toNat : Nat) : Int) < 48 → isD s[k] = false) := fun a => isD_lo a
        have HH : Hid (57 < ((s[k].toNat : Nat) : Int) → isD s[k] = false) := fun a => isD_hi a
        have BN := Lib.below_iterAt hl.below (k := w.heap.size + 1 + 1) (by omega) s (k + 1)
        have IT : It (wr.iterAt (w.heap.size + 1 + 1) s (k + 1)) (w.heap.size + 1 + 1) s (k + 1) := Lib.iterAt_heap wr (w.heap.size + 1 + 1) s k (k + 1) hl.it
        have RN := hl.res.iter (I := w.heap.size + 1 + 1) s (k + 1) (by omega)
        have NN := hl.num.iter (I := w.heap.size + 1 + 1) s (k + 1) (by omega)
        have HW : Hid (WN a b c (dv (s.data.toList.take k))) := hl.wn
        have HD : Hid (dv (s.data.toList.take (k + 1)) = dv (s.data.toList.take k) * 10 + (s[k].toNat - 48)) := by
          show _ = _
          rw [take_snoc s k hp, dv_snoc]
        have HA : Hid (48 ≤ ((s[k].toNat : Nat) : Int) → ((s[k].toNat : Nat) : Int) ≤ 57 → allD (s.data.toList.take (k + 1)) = true) := fun h1 h2 => by
          rw [take_snoc s k hp, allD_append, HK.out]; simp [allD, isD_yes h1 h2]
        have HV : Hid (dv (s.data.toList.take k) < 100000000000000000000) := by
          have h1 := dv_lt _ HK.out
          have h2 : (s.data.toList.take k).length ≤ 20 := by
            rw [List.length_take, len_eq, HS.out]; omega
          exact Nat.lt_of_lt_of_le h1 (Nat.pow_le_pow_right (by decide) h2)
        clear ha hl
        generalize hwn : wr.iterAt (w.heap.size + 1 + 1) s (k + 1) = wn at *
        clear hwn
        have r0 := RN.cell 0
        have r1 := RN.cell 1
        have r2 := RN.cell 2
        have g0 := RN.free 0
        have g1 := RN.free 1
        have g2 := RN.free 2
        have HZ : Hid (Below w.heap.size w (set3 wn w.heap.size 0 0 0) ∧ Blk (set3 wn w.heap.size 0 0 0) w.heap.size #[.int .u32 0, .int .u32 0, .int .u32 0] 85) := ⟨bel_set3 BN _ _ _ _ (Nat.le_refl _), RN.put3 0 0 0⟩
        have c0 := NN.cell 0
        have c1 := NN.cell 1
        have c2 := NN.cell 2
        generalize s[k] = ch at *
        generalize dv (s.data.toList.take k) = V at *
        have HI : Hid (It wn (w.heap.size + 1 + 1) s (k + 1)) := IT
        have HRN : Hid (Blk wn w.heap.size #[.int .u32 0, .int .u32 0, .int .u32 0] 85) := RN
        have HNN : Hid (Blk wn (w.heap.size + 1) #[.int .u32 (a : Int), .int .u32 (b : Int), .int .u32 (c : Int)] 85) := NN
        have HBN : Hid (Below w.heap.size w wn) := BN
        clear IT RN NN BN
        generalize hcc : ch.toNat = z at *
        clear hcc
        by_cases h1 : (z : Int) < 48
        · have R0 : Hid (_ = _) := HZ.out.2.cell 0
          have R1 : Hid (_ = _) := HZ.out.2.cell 1
          have R2 : Hid (_ = _) := HZ.out.2.cell 2
          unfold set3 at *
          go_wp2_with fail
          refine bodyPost_ret (v := .tuple #[.agg #[.int .u32 0, .int .u32 0, .int .u32 0], .int .i64 7]) (by simp [results, Tryz.results53, R0.out, R1.out, R2.out, go_sem]) rfl ⟨HZ.out.1, .inr ⟨HN.out (HL.out h1), rfl⟩⟩
        · by_cases h2 : 57 < (z : Int)
          · have R0 : Hid (_ = _) := HZ.out.2.cell 0
            have R1 : Hid (_ = _) := HZ.out.2.cell 1
            have R2 : Hid (_ = _) := HZ.out.2.cell 2
            unfold set3 at *
            go_wp2_with fail
            refine bodyPost_ret (v := .tuple #[.agg #[.int .u32 0, .int .u32 0, .int .u32 0], .int .i64 7]) (by simp [results, Tryz.results53, R0.out, R1.out, R2.out, go_sem]) rfl ⟨HZ.out.1, .inr ⟨HN.out (HH.out h2), rfl⟩⟩
          · clear r0 r1 r2 g0 g1 g2 HZ HN HL HH
            obtain ⟨d, rfl⟩ : ∃ d : Nat, z = d + 48 := ⟨z - 48, by omega⟩
            have hd9 : (d : Int) ≤ 9 := by omega
            have ez : (((d + 48 : Nat) : Int)) = (d : Int) + 48 := by omega
            have ed : (d : Int) + 48 - 48 = (d : Int) := by omega
            have hwz : IntKind.u32.wrap (d : Int) = (d : Int) := by rw [IntKind.wrap_u32]; omega
            have HA' : Hid (allD (s.data.toList.take (k + 1)) = true) := HA.out (by omega) (by omega)
            have HD' : Hid (dv (s.data.toList.take (k + 1)) = V * 10 + d) := by
              have := HD.out
              rwa [show d + 48 - 48 = d by omega] at this
            have HT : Hid (∀ W, Calls Tryz.prog 84 #[.agg #[.int .u32 (a : Int), .int .u32 (b : Int), .int .u32 (c : Int)], .int .u32 10] W fun e w' => ∃ (a' b' c' : Nat) (o : Int), e = .returned (.tuple #[.agg #[.int .u32 (a' : Int), .int .u32 (b' : Int), .int .u32 (c' : Int)], .int .u32 o]) ∧ WN a' b' c' (V * 10) ∧ Below W.heap.size W w') := fun W => times_wn a b c V 10 W HW.out (by omega) (by have := HV.out; omega)
            have HPl : Hid (∀ (x y z : Nat) W, WN x y z (V * 10) → Calls Tryz.prog 90 #[.agg #[.int .u32 (x : Int), .int .u32 (y : Int), .int .u32 (z : Int)], .int .u32 (d : Int)] W fun e w' => ∃ (a' b' c' : Nat) (o : Int), e = .returned (.tuple #[.agg #[.int .u32 (a' : Int), .int .u32 (b' : Int), .int .u32 (c' : Int)], .int .u32 o]) ∧ WN a' b' c' (V * 10 + d) ∧ Below W.heap.size W w') := fun x y z W hW => plus_wn x y z (V * 10) d W hW (by omega) (by have := HV.out; omega)
            rw [ez] at h1 h2
            simp only [ez] at hnx
            clear HA HD HW HV ez
            go_wp2_with fail
            refine (HT.out _).mono ?_
            clear c0 c1 c2
            rintro e w2 ⟨a2, b2, c2, o2, rfl, hw2, hb2⟩
            have HW2 : Hid (WN a2 b2 c2 (V * 10)) := hw2
            have HB2 : Hid (Below w.heap.size w w2) := bel_step HBN.out hb2
            have HI2 : Hid (It w2 (w.heap.size + 1 + 1) s (k + 1)) := HI.out.next hb2
            have HR2 : Hid (Blk w2 w.heap.size #[.int .u32 0, .int .u32 0, .int .u32 0] 85) := HRN.out.next hb2
            have hN2 := HNN.out.next hb2
            have HN3 : Hid (Blk (set3 w2 (w.heap.size + 1) a2 b2 c2) (w.heap.size + 1) #[.int .u32 (a2 : Int), .int .u32 (b2 : Int), .int .u32 (c2 : Int)] 85) := hN2.put3 a2 b2 c2
            have HB3 : Hid (Below w.heap.size w (set3 w2 (w.heap.size + 1) a2 b2 c2)) := bel_set3 HB2.out _ _ _ _ (by omega)
            have HI3 : Hid (It (set3 w2 (w.heap.size + 1) a2 b2 c2) (w.heap.size + 1 + 1) s (k + 1)) := HI2.out.off3 (by omega) _ _ _
            have HR3 : Hid (Blk (set3 w2 (w.heap.size + 1) a2 b2 c2) w.heap.size #[.int .u32 0, .int .u32 0, .int .u32 0] 85) := HR2.out.off3 (by omega) _ _ _
            have t0 := hN2.cell 0
            have t1 := hN2.cell 1
            have t2 := hN2.cell 2
            have u0 := hN2.free 0
            have u1 := hN2.free 1
            have u2 := hN2.free 2
            clear hw2 hb2 hN2 HBN HI HRN HNN HB2 HI2 HR2 HT
            unfold set3 at HN3 HB3 HI3 HR3
            go_wp2_with fail
            generalize (((w2.setCell ⟨w.heap.size + 1, 0, none⟩ (.int .u32 (a2 : Int))).setCell ⟨w.heap.size + 1, 1, none⟩ (.int .u32 (b2 : Int))).setCell ⟨w.heap.size + 1, 2, none⟩ (.int .u32 (c2 : Int))) = W3 at *
            clear t0 t1 t2 u0 u1 u2
            refine (HPl.out _ _ _ _ HW2.out).mono ?_
            rintro e w4 ⟨a4, b4, c4, o4, rfl, hw4, hb4⟩
            have HB4 : Hid (Below w.heap.size w w4) := bel_step HB3.out hb4
            have hN4 := HN3.out.next hb4
            have HL : Hid (Rd w (set3 w4 (w.heap.size + 1) a4 b4 c4) s (k + 1) a4 b4 c4) := by
              refine ⟨bel_set3 HB4.out _ _ _ _ (by omega), (HR3.out.next hb4).off3 (by omega) _ _ _, hN4.put3 _ _ _, (HI3.out.next hb4).off3 (by omega) _ _ _, ?_⟩
              rw [HD'.out]; exact hw4
            have t0 := hN4.cell 0
            have t1 := hN4.cell 1
            have t2 := hN4.cell 2
            have u0 := hN4.free 0
            have u1 := hN4.free 1
            have u2 := hN4.free 2
            clear hw4 hb4 hN4 HB3 HI3 HR3 HN3 HB4 HPl HW2
            unfold set3 at HL
            go_wp2_with fail
            go_roundw
            case rel => exact ⟨k + 1, a4, b4, c4, by omega, HA'.out, HL.out⟩
            case measure =>
              rw [HP0.out, HL.out.it.pos]
              omega
      · have hd := (decode_high s k hp (by omega)).1
        have hnx : ∀ ty, (Instr.next (.pointer (some ⟨w.heap.size + 1 + 1, 0, none⟩)) true ty).run Tryz.prog wr = _ := fun ty => Lib.run_next_any_at wr (w.heap.size + 1 + 1) s k ty hl.it hp
        have HN : Hid (allD s.data.toList = false) := allD_take_no s k hp (isD_hi (by omega))
        have BN := fun p => Lib.below_iterAt hl.below (k := w.heap.size + 1 + 1) (by omega) s p
        have RN := fun p => hl.res.iter (I := w.heap.size + 1 + 1) s p (by omega)
        clear ha hl
        have hd2 := decode_le s k
        generalize (Utf8.decode s k).1 = r at *
        generalize (Utf8.decode s k).2 = n at *
        have BN := BN (k + n)
        have RN := RN (k + n)
        generalize hwn : wr.iterAt (w.heap.size + 1 + 1) s (k + n) = wn at *
        clear hwn
        have r0 := RN.cell 0
        have r1 := RN.cell 1
        have r2 := RN.cell 2
        have g0 := RN.free 0
        have g1 := RN.free 1
        have g2 := RN.free 2
        have HZ : Hid (Below w.heap.size w (set3 wn w.heap.size 0 0 0) ∧ Blk (set3 wn w.heap.size 0 0 0) w.heap.size #[.int .u32 0, .int .u32 0, .int .u32 0] 85) := ⟨bel_set3 BN _ _ _ _ (Nat.le_refl _), RN.put3 0 0 0⟩
        have R0 : Hid (_ = _) := HZ.out.2.cell 0
        have R1 : Hid (_ = _) := HZ.out.2.cell 1
        have R2 : Hid (_ = _) := HZ.out.2.cell 2
        clear BN RN
        unfold set3 at *
        go_wp2_with fail
        refine bodyPost_ret (v := .tuple #[.agg #[.int .u32 0, .int .u32 0, .int .u32 0], .int .i64 7]) (by simp [results, Tryz.results53, R0.out, R1.out, R2.out, go_sem]) rfl ⟨HZ.out.1, .inr ⟨HN.out, rfl⟩⟩
    · have hnx : ∀ ty, (Instr.next (.pointer (some ⟨w.heap.size + 1 + 1, 0, none⟩)) true ty).run Tryz.prog wr = _ := fun ty => Lib.run_next_end_at wr (w.heap.size + 1 + 1) s k ty hl.it hp
      have hkt : s.data.toList.take k = s.data.toList := List.take_of_length_le (by rw [len_eq]; omega)
      have HP : Hid (allD s.data.toList = true ∧ WN a b c (dv s.data.toList)) := by
        have h1 := HK.out
        have h2 := hl.wn
        rw [hkt] at h1 h2
        exact ⟨h1, h2⟩
      have r0 := hl.res.cell 0
      have r1 := hl.res.cell 1
      have r2 := hl.res.cell 2
      have g0 := hl.res.free 0
      have g1 := hl.res.free 1
      have g2 := hl.res.free 2
      have c0 := hl.num.cell 0
      have c1 := hl.num.cell 1
      have c2 := hl.num.cell 2
      have HZ : Hid (Below w.heap.size w (set3 wr w.heap.size a b c) ∧ Blk (set3 wr w.heap.size a b c) w.heap.size #[.int .u32 (a : Int), .int .u32 (b : Int), .int .u32 (c : Int)] 85) := ⟨bel_set3 hl.below _ _ _ _ (Nat.le_refl _), hl.res.put3 a b c⟩
      have R0 : Hid (_ = _) := HZ.out.2.cell 0
      have R1 : Hid (_ = _) := HZ.out.2.cell 1
      have R2 : Hid (_ = _) := HZ.out.2.cell 2
      clear hl hkt
      unfold set3 at *
      go_wp2_with fail
      refine bodyPost_ret (v := .tuple #[.agg #[.int .u32 (a : Int), .int .u32 (b : Int), .int .u32 (c : Int)], .int .i64 0]) (by simp [results, Tryz.results53, R0.out, R1.out, R2.out, go_sem]) rfl ⟨HZ.out.1, .inl ⟨HP.out.1, a, b, c, rfl, HP.out.2⟩⟩

end Go.Proofs.YtlicdeppfhmfjaaGreatDoor.token
