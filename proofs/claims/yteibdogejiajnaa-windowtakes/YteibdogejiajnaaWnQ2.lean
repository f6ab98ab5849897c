/- The numbers that are known: the walk. -/
import Derived.Test.YteibdogejiajnaaWnQ
namespace Go.Proofs.Yteibdogejiajnaa.win
open Go.RowKit Go.Proofs.Yteibdogejiajnaa.irow Go.Proofs.Yteibdogejiajnaa.check
set_option maxRecDepth 100000
set_option linter.unusedVariables false

set_option maxHeartbeats 4000000 in
theorem knows_walk (K : WKit) (a0 : Option Addr) (len0 cap0 : Nat) (z0 : List Int) (w : World) (hr : RowF w a0 len0 z0) :
    Calls Try.prog 8 #[.slice a0 len0 cap0] w fun e w' => e = .returned (.bool true) ∧ Below w.heap.size w w' := by
  have HK : Hid WKit := K
  have HR : Hid (RowF w a0 len0 z0) := hr
  have hmk : ∀ W : World, (Instr.makeSlice 37 (.int .i64 301) (.int .i64 301)).run Try.prog W = .ok (.slice (some ⟨W.heap.size, 0, none⟩) 301 301) (W.alloc (.cells (arrB (List.replicate 301 false)) 4)) := make_bool 301 (by decide)
  have HW0 : Hid (Kn w ((w.alloc (.cells #[.int .i64 0, .int .u64 0] 24)).alloc (.cells (arrB (List.replicate 301 false)) 4)) 0 0 (List.replicate 301 false)) := by
    refine ⟨Blk.alloc (Blk.new w _ _) _, Blk.new1 w _ _ _, by simp, ?_, ((Below.refl _ _).alloc (Nat.le_refl _) _).alloc (ialloc_le (Nat.le_refl _) _) _⟩
    have hp : ∀ x, ¬ Pt (List.replicate 301 false) x := fun x hx => by
      have h2 := hx.2
      simp only [List.getD, List.getElem?_replicate] at h2
      split at h2 <;> simp at h2
    exact ⟨by decide, fun t ht => ⟨(fun h => by rw [Nat.zero_testBit] at h; cases h), fun h => absurd h (hp _)⟩, .inl ⟨rfl, hp⟩, fun x hx => absurd hx (hp x), by decide, by decide⟩
  clear K hr
  generalize List.replicate 301 false = ts0 at *
  go_enter Try.func8, Try.ntmps8
  go_wp2_with fail
  clear hmk
  generalize (w.alloc (.cells #[.int .i64 0, .int .u64 0] 24)).alloc (.cells (arrB ts0) 4) = W0 at *
  go_loopw [5] (fun j wr => ∃ (k : Nat) (h : Int) (b : Nat) (ts : List Bool), j = .int .i64 (k : Int) ∧ k ≤ 300 ∧ k ≤ len0 ∧ 0 ≤ h ∧ h ≤ 300 ∧ Hid ((k = 0 ∧ h = 0) ∨ (1 ≤ k ∧ 1 ≤ h)) ∧ Kn w wr h b ts) (fun j _ => 300 - (intOf j).toNat)
  case atStart => exact ⟨0, 0, 0, ts0, rfl, Nat.zero_le _, Nat.zero_le _, by decide, by decide, .inl ⟨rfl, rfl⟩, HW0.out⟩
  case round =>
    obtain ⟨k, h, b, ts, rfl, hk, hkl, h0, h3, HZ, hkn⟩ := hrel
    have HI : Hid (Kn w wr h b ts) := hkn
    clear HW0 hkn
    have x0 := HI.out.win.cell 0
    have x1 := HI.out.win.cell 1
    by_cases hgo : k < len0 ∧ k < 300
    · obtain ⟨g1, g2⟩ := hgo
      obtain ⟨bi, oi, rfl, hcell, hwf⟩ := (HR.out.below HI.out.bel) k g1
      have HPK : Hid (∀ W, Calls Try.prog 16 #[.int .i64 (z0.getD k 0), .int .i64 300] W fun e w' => e = .returned (.int .i64 (((pick (z0.getD k 0) 300).toNat : Nat) : Int)) ∧ w' = W) := fun W => picked_nat _ 300 W hwf (by decide) (by decide)
      have hp : (pick (z0.getD k 0) 300).toNat < 300 := pick_toNat _ 300 (by decide)
      clear hwf
      generalize (pick (z0.getD k 0) 300).toNat = r at *
      generalize z0.getD k 0 = zk at *
      have HTK : Hid (∀ W, Calls Try.prog 11 #[.agg #[.int .i64 h, .int .u64 (b : Int)], .int .i64 (1 + (r : Int))] W fun e w' => Took W h b (Pt ts) (1 + (r : Int)) e w') := fun W => HK.out.took HI.out.rep W _ (by omega) (by omega)
      go_wp2_with fail
      refine (HPK.out _).mono ?_
      rintro e w1 ⟨rfl, rfl⟩
      go_wp2_with fail
      refine (HTK.out _).mono ?_
      rintro e w2 ⟨hb2, hor⟩
      clear hcell HPK HTK
      have hor2 : (∃ h' b', e = .returned (.tuple #[.agg #[.int .i64 h', .int .u64 ((b' : Nat) : Int)], .int .i64 0]) ∧ h' = max h (1 + (r : Int)) ∧ Rep h' b' (fun x => Pt ts x ∨ x = 1 + (r : Int))) ∨ (∃ c : Int, e = .returned (.tuple #[.agg #[.int .i64 0, .int .u64 0], .int .i64 c]) ∧ (c == 0) = false ∧ 1 ≤ h) := by
        rcases hor with ⟨h', b', he, hh, _, _, hrp⟩ | ⟨he, hx⟩ | ⟨he, _, hx⟩
        · exact .inl ⟨h', b', he, hh, hrp⟩
        · exact .inr ⟨13, he, by decide, by omega⟩
        · exact .inr ⟨14, he, by decide, by have := (HI.out.rep.range _ hx); omega⟩
      clear hor
      rcases hor2 with ⟨h', b', rfl, hh, hrp⟩ | ⟨c, rfl, hc, hh⟩
      · have hi1 : 1 + r < ts.length := by rw [HI.out.len]; omega
        have HRP : Hid (Rep h' b' (Pt (ts.set (1 + r) true))) := by
          have hps : ∀ x, Pt (ts.set (1 + r) true) x ↔ (Pt ts x ∨ x = 1 + (r : Int)) := fun x => by
            rw [Pt_set hi1 x]
            rw [show ((1 + r : Nat) : Int) = 1 + (r : Int) by omega]
          refine ⟨hrp.lt, fun t ht => ?_, ?_, fun x hx => hrp.range x ((hps x).1 hx), hrp.low, hrp.most⟩
          · rw [hrp.bits t ht, hps]
          · rcases hrp.top with ⟨e1, e2⟩ | e1
            · exact .inl ⟨e1, fun x hx => e2 x ((hps x).1 hx)⟩
            · exact .inr ((hps h').2 e1)
        have hh1 : 0 ≤ h' := by omega
        have hh2 : h' ≤ 300 := by omega
        have hh3 : 1 ≤ h' := by omega
        have H2 := HI.out.next hb2
        have hN := Blk.new w2 #[.int .i64 h', .int .u64 (b' : Int)] 24
        have n0 := hN.cell 0
        have n1 := hN.cell 1
        have hG := Blk.alloc H2.win (.cells #[.int .i64 h', .int .u64 (b' : Int)] 24)
        have hT := Blk.alloc H2.tab (.cells #[.int .i64 h', .int .u64 (b' : Int)] 24)
        have q0 := hG.cell 0
        have q1 := hG.cell 1
        have y0 := hG.free 0
        have y1 := hG.free 1
        have hT2 : Blk (setWn (w2.alloc (.cells #[.int .i64 h', .int .u64 (b' : Int)] 24)) w.heap.size h' b') (w.heap.size + 1) (arrB ts) 4 := (hT.other 0 _ (by omega)).other 1 _ (by omega)
        have t0 := Blk.yes hT2 (1 + r) hi1
        have t1 := hT2.free (1 + r)
        have hT3 := hT2.set (1 + r) (.bool true)
        rw [arrB_set] at hT3
        have hW3 := Blk.other (Win.set hG h' b') (1 + r) (.bool true) (G' := w.heap.size + 1) (by omega)
        have hB3 := bel_set (bel_win (H2.bel.alloc H2.bel.size (.cells #[.int .i64 h', .int .u64 (b' : Int)] 24)) _ (Nat.le_refl _) h' b') (w.heap.size + 1) (1 + r) (.bool true) (Nat.le_succ _)
        have HF : Hid (Kn w ((setWn (w2.alloc (.cells #[.int .i64 h', .int .u64 (b' : Int)] 24)) w.heap.size h' b').setCell ⟨w.heap.size + 1, 1 + r, none⟩ (.bool true)) h' b' (ts.set (1 + r) true)) := ⟨hW3, hT3, by rw [List.length_set]; exact HI.out.len, HRP.out, hB3⟩
        clear hh hrp hb2 x0 x1 H2 hN hG hT hT2 hT3 hW3 hB3 HRP HI
        unfold setWn at HF t0 t1
        generalize ts.getD (1 + r) false = tv at t0
        go_wp2_with fail
        go_roundw
        case rel => exact ⟨k + 1, h', b', ts.set (1 + r) true, by go_num, by omega, by omega, hh1, hh2, .inr ⟨by omega, hh3⟩, HF.out⟩
        case measure => simp [intOf]; omega
      · have H3 : Hid (Kn w (w2.alloc (.cells #[.int .i64 0, .int .u64 0] 24)) h b ts) := (HI.out.next hb2).next ((Below.refl _ _).alloc (Nat.le_refl _) _)
        clear hb2 x0 x1
        go_wp2_with fail
        go_roundw
        case rel => exact ⟨k + 1, h, b, ts, by go_num, by omega, by omega, h0, h3, .inr ⟨by omega, hh⟩, H3.out⟩
        case measure => simp [intOf]; omega
    · have HUS : Hid (∀ W, Calls Try.prog 13 #[.agg #[.int .i64 h, .int .u64 (b : Int)]] W fun e w' => UsedPost W h b e w') := fun W => HK.out.used W h b HI.out.rep.small
      have hend : (k < len0 ∧ ¬ (k : Int) < 300) ∨ ¬ k < len0 := by
        by_cases g1 : k < len0
        · exact .inl ⟨g1, fun h => hgo ⟨g1, by omega⟩⟩
        · exact .inr g1
      have hlen : (len0 = 0 ∧ h = 0) ∨ (1 ≤ len0 ∧ 1 ≤ h) := by
        rcases HZ.out with ⟨e1, e2⟩ | ⟨e1, e2⟩
        · left; rcases hend with ⟨g1, g2⟩ | g1 <;> omega
        · right; omega
      have HLE : Hid ((len0 = 0 ∧ h = 0) ∨ (1 ≤ len0 ∧ 1 ≤ h)) := hlen
      clear hgo hlen HZ
      rcases hend with ⟨g1, g2⟩ | g1
      all_goals
        go_wp2_with fail
        refine (HUS.out _).mono ?_
        rintro e w2 ⟨v, zs, c, rfl, hv, hb2, hor⟩
        have hzs : c = 0 ∧ zs = mem h b 64 := by
          rcases hor with ⟨_, e1, e2⟩ | ⟨e1, _⟩
          · exact ⟨e1, e2⟩
          · exact absurd HI.out.rep.may e1
        obtain ⟨rfl, rfl⟩ := hzs
        have H2 : Hid (Kn w w2 h b ts) := HI.out.next hb2
        have HM : Hid (∀ x, x ∈ mem h b 64 ↔ Pt ts x ∧ h - 64 < x) := HI.out.rep.mem_iff
        have HRG : Hid (∀ x, x ∈ mem h b 64 → 1 ≤ x ∧ x ≤ h) := fun x hx => HI.out.rep.range x ((HI.out.rep.mem_iff x).1 hx).1
        have HRI : Hid ((mem h b 64).Pairwise (· < ·)) := mem_rises h b 64 (Nat.le_refl _)
        have HEM : Hid ((len0 = 0 ∧ (mem h b 64).length = 0) ∨ (1 ≤ len0 ∧ 1 ≤ (mem h b 64).length)) := by
          rcases HLE.out with ⟨e1, e2⟩ | ⟨e1, e2⟩
          · refine .inl ⟨e1, ?_⟩
            rw [List.length_eq_zero_iff, List.eq_nil_iff_forall_not_mem]
            intro x hx
            have := HRG.out x hx
            omega
          · refine .inr ⟨e1, ?_⟩
            rcases HI.out.rep.top with ⟨e3, _⟩ | e3
            · omega
            · exact List.length_pos_of_mem ((HM.out h).2 ⟨e3, by omega⟩)
        obtain ⟨a, cap, rfl, hrow, _, _⟩ := hv.row
        have HLN := mem_len h b 64
        generalize mem h b 64 = l at *
        obtain ⟨n, hn⟩ : ∃ n, l.length = n := ⟨_, rfl⟩
        rw [hn] at hrow HLN HEM
        rw [hn]
        have HN : Hid (l.length = n) := hn
        have HRW : Hid (RowN w2 a n l) := hrow
        clear hv hb2 hor hrow hn x0 x1 HUS HLE HI
        have y0 := H2.out.win.cell 0
        go_wp2_with fail
        go_loopw [11, 12] (fun v11 v12 wr => ∃ (kk j : Nat), v11 = .int .i64 (kk : Int) ∧ v12 = .int .i64 (j : Int) ∧ 1 ≤ j ∧ j ≤ 301 ∧ kk ≤ n ∧ Hid (kk = cn l (j : Int)) ∧ wr = w2) (fun _ v12 _ => 301 - (intOf v12).toNat)
        case atStart => exact ⟨0, 1, rfl, rfl, by decide, by decide, Nat.zero_le _, (cn_start fun x hx => (HRG.out x hx).1).symm, rfl⟩
        case round =>
          obtain ⟨kk, j, rfl, rfl, hj1, hj2, hkn, HC, rfl⟩ := hrel
          by_cases hjl : j ≤ 300
          · have t0 := Blk.yes H2.out.tab j (by rw [H2.out.len]; omega)
            have hpt : Pt ts (j : Int) ↔ ts.getD j false = true := by unfold Pt; simp
            by_cases hin : (j : Int) ∈ l
            · have hi := (HM.out (j : Int)).1 hin
              have htj : ts.getD j false = true := hpt.1 hi.1
              rw [htj] at t0
              have hgt := hi.2
              obtain ⟨k1, k2, k3⟩ := cn_in HRI.out hin
              rw [← HC.out] at k1 k2 k3
              rw [HN.out] at k1
              obtain ⟨bl, off, rfl, _, hc⟩ := HRW.out.at (by omega)
              have g3 := hc kk k1
              rw [k2] at g3
              have hne : ((j : Int) != (j : Int)) = false := by simp
              have HC2 : Hid (kk + 1 = cn l ((j + 1 : Nat) : Int)) := k3.symm
              clear hc hi htj hpt k2 k3 hin
              go_wp2_with fail
              go_roundw
              case rel => exact ⟨kk + 1, j + 1, by go_num, by go_num, by omega, by omega, by omega, HC2, trivial⟩
              case measure => simp [intOf]; omega
            · have HC2 : Hid (kk = cn l ((j + 1 : Nat) : Int)) := HC.out.trans (cn_out hin).symm
              by_cases htj : ts.getD j false = true
              · have hle : ¬ (h - 64 < (j : Int)) := fun hlt => hin ((HM.out _).2 ⟨hpt.2 htj, hlt⟩)
                have hd : decide (h - 64 < (j : Int)) = false := by simp only [decide_eq_false_iff_not]; exact hle
                rw [htj] at t0
                clear htj hpt hin
                go_wp2_with fail
                go_roundw
                case rel => exact ⟨kk, j + 1, rfl, by go_num, by omega, by omega, by omega, HC2, trivial⟩
                case measure => simp [intOf]; omega
              · have htj' : ts.getD j false = false := by simpa using htj
                rw [htj'] at t0
                clear htj htj' hpt hin
                go_wp2_with fail
                go_roundw
                case rel => exact ⟨kk, j + 1, rfl, by go_num, by omega, by omega, by omega, HC2, trivial⟩
                case measure => simp [intOf]; omega
          · obtain rfl : j = 301 := by omega
            have hkk : kk = n := by
              rw [HC.out, ← HN.out]
              exact cn_end fun x hx => by have := HRG.out x hx; show x < ((301 : Nat) : Int); omega
            subst hkk
            have hq : ((kk : Int) == (kk : Int)) = true := beq_self_eq_true _
            have hnl : ¬ ((301 : Nat) : Int) ≤ 300 := by decide
            clear HC
            rcases HEM.out with ⟨e1, e2⟩ | ⟨e1, e2⟩
            · have p1 : ((len0 : Int) == 0) = true := by simp; omega
              have p2 : ((kk : Int) == 0) = true := by simp; omega
              clear e1 e2
              go_wp2_with fail
              go_ret
              exact ⟨rfl, H2.out.bel⟩
            · have p1 : ((len0 : Int) == 0) = false := by simp; omega
              have p2 : ((kk : Int) == 0) = false := by simp; omega
              clear e1 e2
              go_wp2_with fail
              go_ret
              exact ⟨rfl, H2.out.bel⟩

end Go.Proofs.Yteibdogejiajnaa.win
