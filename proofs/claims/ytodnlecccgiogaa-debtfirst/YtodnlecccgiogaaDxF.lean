/- The statement DebtFirst. -/
import Derived.Test.YtodnlecccgiogaaKdR
import Derived.Test.YtodnlecccgiogaaDbQ
import Derived.Test.YtodnlecccgiogaaDbE
import Derived.Test.YtodnlecccgiogaaDbF
import Derived.Deep.DeepCutAuto
namespace Go.Proofs.Ytodnlecccgiogaa.deb
open Go.Proofs.Ytodnlecccgiogaa.tar (Du du0 Came RowD Ld TwoPost PairT)
open Go.Proofs.Ytodnlecccgiogaa.check (pick picked_any pick_nonneg pick_lt)
open Go.RowKit
set_option maxRecDepth 100000
set_option linter.unusedVariables false
set_option linter.unusedSimpArgs false

set_option maxHeartbeats 4000000 in
theorem DebtFirst_walk (KRec : KdRec) (a : Option Addr) (len cap : Nat) (rs : List Du) (t y : Int) (w : World) (h : Came w a len cap rs) (ht : (Lit.int .i64 t).wf = true) (hy : (Lit.int .i64 y).wf = true) : Calls Try.prog 8 #[.slice a len cap, .int .i64 t, .int .i64 y] w fun e w' => e = .returned (.bool true) ∧ Below w.heap.size w w' := by
  have HST : Hid (Calls Try.prog 19 #[.slice a len cap, .int .i64 1000000000] w fun e w' => GaveO w 1000000000 e w') := owing_any a len cap 1000000000 (by decide) rs w h
  have HP1 : Hid (∀ W, Calls Try.prog 20 #[.int .i64 t, .int .i64 100000001] W fun e w' => e = .returned (.int .i64 (pick t 100000001)) ∧ w' = W) := fun W => picked_any t 100000001 W ht (by decide) (by decide)
  have qP10 := pick_nonneg t 100000001 (by decide)
  have qP11 := pick_lt t 100000001 (by decide)
  generalize pick t 100000001 = X at *
  have HP2 : Hid (∀ W, Calls Try.prog 20 #[.int .i64 y, .int .i64 10001] W fun e w' => e = .returned (.int .i64 (pick y 10001)) ∧ w' = W) := fun W => picked_any y 10001 W hy (by decide) (by decide)
  have qP20 := pick_nonneg y 10001 (by decide)
  have qP21 := pick_lt y 10001 (by decide)
  generalize pick y 10001 = Y at *
  clear h
  go_enter Try.func8, Try.ntmps8
  go_wp2_with fail
  refine HST.out.mono ?_
  rintro e w1 ⟨v1, ls, rfl, hm, hmo, hv1, hb1⟩
  obtain ⟨a1, cap1, rfl, hc1⟩ := ld_mays hv1 hm
  have HC1 : Hid (Came w1 a1 ls.length cap1 ls) := hc1
  have HM : Hid (Mays ls) := hm
  have HMO : Hid (∀ d ∈ ls, d.a ≤ 1000000000) := hmo
  have hl8 : ls.length ≤ 8 := hm.1
  have B1 : Hid (Below w.heap.size w w1) := hb1
  clear hv1 hc1 hb1 HST hm hmo
  have HTM : Hid (TMay X Y) := ⟨⟨by omega, by omega⟩, by omega, by omega⟩
  have hsb := share_bd HTM.out
  have HSV0 : ∃ s, X * Y / 10000 = s := ⟨_, rfl⟩
  obtain ⟨s, hsv⟩ := HSV0
  have HSV : Hid (X * Y / 10000 = s) := hsv
  rw [hsv] at hsb
  clear hsv
  have HRE : Hid (∀ W a' n' c' l', Came W a' n' c' l' → Mays l' → Calls Try.prog 13 #[.slice a' n' c', .int .i64 X, .int .i64 Y] W fun e w' => ∃ a2 n2 c2, e = .returned (.tuple #[.slice a2 n2 c2, .int .i64 (min s (sumD l')), .int .i64 0]) ∧ Came w' a2 n2 c2 (recK l' s l'.length) ∧ Mays (recK l' s l'.length) ∧ Below W.heap.size W w') := fun W a' n' c' l' hc hm =>
    (KRec W a' n' c' l' X Y hc (tar.wf_mid (by omega) (by omega)) (tar.wf_mid (by omega) (by omega))).mono fun e w' hh => by
      obtain ⟨a2, n2, c2, z, p, f, rfl, hp, hcf, hb⟩ := hh
      have hcz := hcf.came
      have hmz := hp.mays
      obtain ⟨rfl, rfl, rfl⟩ := hp.got hm HTM.out
      rw [HSV.out] at hcz hmz ⊢
      exact ⟨a2, n2, c2, rfl, hcz, hmz, hb⟩
  clear KRec
  have hnn : ∀ d ∈ ls, 0 ≤ d.a := fun d hd => (mem_fits HM.out.2 d hd).1.1
  have hra := rec_all HM.out s hsb.1
  obtain ⟨g, hg⟩ := gone_is ls s hsb.1 hnn
  have hglen := hg.len
  have HNO : Hid (recL ls s = [] → min s (sumD ls) = sumD ((some1 ls).take g)) := hg.none
  have HAT : Hid (∀ i, i < (recL ls s).length → (recL ls s).getD i du0 = ⟨((some1 ls).getD (g + i) du0).a - (if i = 0 then min s (sumD ls) - sumD ((some1 ls).take g) else 0), ((some1 ls).getD (g + i) du0).b⟩) := fun i hi => hg.at i hi
  have HON : Hid (∀ i, i < (recL ls s).length → 1 ≤ ((recL ls s).getD i du0).a) := fun i hi => recL_one hg i hi
  have HLM : Hid (Mays (some1 ls)) := ⟨Nat.le_trans (some1_len ls) HM.out.1, fits_mem fun d hd => mem_fits HM.out.2 d (some1_mem hd).1⟩
  have hT := sumD_pos (mem_fits HM.out.2)
  have hpb : 0 ≤ min s (sumD ls) ∧ min s (sumD ls) ≤ 8000000000 := by have := hT.1; omega
  have hsm := sumK_bd HLM.out g (by omega)
  rw [sumK_take (some1 ls) g (by omega)] at hsm
  have HSMK : Hid (sumK (some1 ls) g = sumD ((some1 ls).take g)) := sumK_take (some1 ls) g (by omega)
  clear hg hnn hT
  go_wp2_with fail
  refine (HP1.out _).mono ?_
  rintro e wz ⟨rfl, hwz⟩
  subst hwz
  go_wp2_with fail
  refine (HP2.out _).mono ?_
  rintro e wz ⟨rfl, hwz⟩
  subst hwz
  go_wp2_with fail
  refine (HRE.out _ _ _ _ _ HC1.out HM.out).mono ?_
  rintro e w2 ⟨a2, nz, cz, rfl, hcz, hmz, hbz⟩
  rw [hra] at hcz
  have hnz : (recL ls s).length = nz := hcz.row.1
  rw [hnz] at hglen
  have HNZ : Hid ((recL ls s).length = nz) := hnz
  have HZ2 : Hid (Came w2 a2 nz cz (recL ls s)) := hcz
  have HC2 : Hid (Came w2 a1 ls.length cap1 ls) := HC1.out.below hbz
  have B2 : Hid (Below w.heap.size w w2) := B1.out.trans (hbz.mono B1.out.size)
  have hnz8 : nz ≤ 8 := by have := HLM.out.1; omega
  clear hcz hmz hbz HRE HC1 B1 hra hnz HP1 HP2
  generalize min s (sumD ls) = P at *
  generalize hSM : sumD ((some1 ls).take g) = SM at *
  generalize hn1 : ls.length = n1 at *
  have HLEN : Hid (ls.length = n1) := hn1
  clear hSM hn1
  go_wp2_with fail
  go_loopw [11, 12] (fun u z wr => ∃ (k : Nat) (V : Value), k ≤ n1 ∧ z = .int .i64 (k : Int) ∧ V = u ∧ Ld 43 wr w2.heap.size V (some1 (ls.take k)) ∧ Below w2.heap.size w2 wr) (fun _ z _ => n1 - (intOf z).toNat)
  case atStart => exact ⟨0, _, Nat.zero_le _, rfl, rfl, tar.Ld.zero _ _ _, Below.refl _ _⟩
  case round =>
    obtain ⟨k, V, hk, rfl, hV, hu, hb⟩ := hrel
    subst hV
    have HBW : Hid (Below w2.heap.size w2 wr) := hb
    have HU : Hid (Ld 43 wr w2.heap.size V (some1 (ls.take k))) := hu
    by_cases hlt : k < n1
    · have hdl : decide ((k : Int) < (n1 : Int)) = true := by simp; omega
      have hkl : k < ls.length := by rw [HLEN.out]; exact hlt
      obtain ⟨b, off, rfl, hbl, hc⟩ := HC2.out.row.at (by omega)
      have c0 : wr.cell? ⟨b, off + k * 2, none⟩ = some (.int .i64 (ls.getD k du0).a) := (hb.cell (p := ⟨b, off + k * 2, none⟩) hbl).trans (hc k hlt).1
      have c1 : wr.cell? ⟨b, off + k * 2 + 1, none⟩ = some (.int .i64 (ls.getD k du0).b) := (hb.cell (p := ⟨b, off + k * 2 + 1, none⟩) hbl).trans (hc k hlt).2
      have HTK : Hid (ls.take (k + 1) = ls.take k ++ [ls.getD k du0]) := tar.take_one ls k hkl
      have hzl : (some1 (ls.take k)).length ≤ 1000000 := by have := some1_len (ls.take k); rw [List.length_take] at this; omega
      by_cases hpos : 0 < (ls.getD k du0).a
      · have hdp : decide (0 < (ls.getD k du0).a) = true := decide_eq_true hpos
        have HZ3 : Hid (some1 (ls.take (k + 1)) = some1 (ls.take k) ++ [⟨(ls.getD k du0).a, (ls.getD k du0).b⟩]) := by show _ = _; rw [HTK.out]; exact some1_yes _ _ hpos
        clear hc hb hu hpos hkl
        generalize some1 (ls.take k) = Z at *
        generalize (ls.getD k du0).a = x at *
        generalize (ls.getD k du0).b = y0 at *
        have HBA : Hid (Below w2.heap.size w2 (wr.alloc (.cells #[.int .i64 x, .int .i64 y0] 43))) := HBW.out.alloc HBW.out.size _
        have HZA : Hid (Ld 43 (wr.alloc (.cells #[.int .i64 x, .int .i64 y0] 43)) w2.heap.size V Z) := HU.out.alloc _
        have HCA : Hid ((wr.alloc (.cells #[.int .i64 x, .int .i64 y0] 43)).cell? ⟨wr.heap.size, 0, none⟩ = some (.int .i64 x) ∧ (wr.alloc (.cells #[.int .i64 x, .int .i64 y0] 43)).cell? ⟨wr.heap.size, 1, none⟩ = some (.int .i64 y0)) := ⟨(Blk.new wr _ _).cell 0, (Blk.new wr _ _).cell 1⟩
        go_wp2_with (first
          | (at_builtin; refine tar.wp_pair debtT rfl _ _ rfl w2.heap.size wr.heap.size V Z ⟨x, y0⟩ rfl rfl HZA.out HCA.out hzl HBA.out.size ?_)
          | fail)
        intro v3 w3 h3 hg3
        have HB3 : Hid (Below w2.heap.size w2 w3) := tar.own_bel HZA.out hg3 HBA.out (Nat.le_refl _) HBA.out.size
        have H3 : Hid (Ld 43 w3 w2.heap.size v3 (Z ++ [⟨x, y0⟩])) := h3
        clear h3 hg3 HZA HCA HBA HU c0 c1
        go_wp2_with fail
        go_roundw
        case rel => exact ⟨k + 1, v3, by omega, by go_num, by first | rfl | trivial, by rw [HZ3.out]; exact H3.out, HB3.out⟩
        case measure => simp [intOf]; omega
      · have hdp : decide (0 < (ls.getD k du0).a) = false := decide_eq_false hpos
        have HZ3 : Hid (some1 (ls.take (k + 1)) = some1 (ls.take k)) := by show _ = _; rw [HTK.out]; exact some1_no _ _ hpos
        clear hc hb hu hpos hkl
        generalize some1 (ls.take k) = Z at *
        generalize (ls.getD k du0).a = x at *
        generalize (ls.getD k du0).b = y0 at *
        go_wp2_with fail
        go_roundw
        case rel => exact ⟨k + 1, V, by omega, by go_num, by first | rfl | trivial, by rw [HZ3.out]; exact HU.out, HBW.out⟩
        case measure => simp [intOf]; omega
    · obtain rfl : k = n1 := by omega
      have hdl : decide ((k : Int) < (k : Int)) = false := by simp
      have htk : ls.take k = ls := List.take_of_length_le (by rw [HLEN.out]; exact Nat.le_refl _)
      rw [htk] at hu
      obtain ⟨a4, c4, hv4, hc4⟩ := ld_mays hu HLM.out
      subst hv4
      have hL8 := HLM.out.1
      have HC4 : Hid (Came wr a4 (some1 ls).length c4 (some1 ls)) := hc4
      have HZ4 : Hid (Came wr a2 nz cz (recL ls s)) := HZ2.out.below hb
      have B4 : Hid (Below w.heap.size w wr) := B2.out.trans (hb.mono B2.out.size)
      clear hu hc4 htk HU hb HBW HZ2 HC2 B2
      have HNL : Hid ((some1 ls).length = g + nz) := hglen
      generalize hL : some1 ls = L at *
      generalize hR : recL ls s = R at *
      clear hL hR
      rw [hglen] at HC4 hL8 ⊢
      clear hglen
      generalize hw5 : wr = w5 at *
      clear hw5
      have hsub : ((g + nz : Nat) : Int) - (nz : Int) = (g : Int) := by omega
      have hg0 : decide ((g : Int) < 0) = false := decide_eq_false (by omega)
      generalize hnl : g + nz = nl at *
      have HNLE : Hid (g + nz = nl) := hnl
      have hgl : g ≤ nl := by omega
      clear hnl
      go_wp2_with fail
      go_loopw [14, 15] (fun u z wr => ∃ i : Nat, i ≤ g ∧ z = .int .i64 (i : Int) ∧ u = .int .i64 (sumK L i) ∧ wr = w5) (fun _ z _ => g - (intOf z).toNat)
      case atStart => exact ⟨0, Nat.zero_le _, rfl, rfl, rfl⟩
      case round =>
        obtain ⟨i, hi, rfl, rfl, hwr⟩ := hrel
        subst wr
        have hsb2 := sumK_bd HLM.out i (by rw [HNL.out]; omega)
        by_cases hlt2 : i < g
        · have hdl2 : decide ((i : Int) < (g : Int)) = true := by simp; omega
          obtain ⟨b, off, rfl, hbl, hc⟩ := HC4.out.row.at (by omega)
          have hinl : i < nl := by omega
          have c0 := (hc i hinl).1
          have ho := (HLM.out.2 i (by rw [HNL.out]; omega)).1
          have HN : Hid (sumK L i + (L.getD i du0).a = sumK L (i + 1)) := (sumK_next L i).symm
          clear hc
          generalize sumK L i = q at *
          generalize (L.getD i du0).a = x at *
          go_wp2_with fail
          go_roundw
          case rel => exact ⟨i + 1, by omega, by go_num, by rw [← HN.out], by first | rfl | trivial⟩
          case measure => simp [intOf]; omega
        · obtain rfl : g = i := by omega
          have hdl2 : decide ((g : Int) < (g : Int)) = false := by simp
          rw [HSMK.out]
          clear hsb2
          go_wp2_with fail
          go_loopw [16] (fun z wr => ∃ j : Nat, j ≤ nz ∧ z = .int .i64 (j : Int) ∧ Below w5.heap.size w5 wr) (fun z _ => nz - (intOf z).toNat)
          case atStart => exact ⟨0, Nat.zero_le _, rfl, Below.refl _ _⟩
          case round =>
            obtain ⟨j, hj, rfl, hbw⟩ := hrel
            have HBW : Hid (Below w5.heap.size w5 wr) := hbw
            by_cases hlt3 : j < nz
            · have hdl3 : decide ((j : Int) < (nz : Int)) = true := by simp; omega
              have hgj : g + j < nl := by have := HNLE.out; omega
              obtain ⟨b, off, rfl, hbl, hc⟩ := HC4.out.row.at (by omega)
              obtain ⟨bz, oz, rfl, hblz, hcz⟩ := HZ4.out.row.at (by omega)
              have hat := HAT.out j (by rw [HNZ.out]; exact hlt3)
              have hon := HON.out j (by rw [HNZ.out]; exact hlt3)
              have hlo := HLM.out.2 (g + j) (by rw [HNL.out]; exact hgj)
              have c0 : wr.cell? ⟨b, off + (g + j) * 2, none⟩ = some (.int .i64 (L.getD (g + j) du0).a) := (hbw.cell (p := ⟨b, off + (g + j) * 2, none⟩) hbl).trans (hc (g + j) hgj).1
              have c1 : wr.cell? ⟨b, off + (g + j) * 2 + 1, none⟩ = some (.int .i64 (L.getD (g + j) du0).b) := (hbw.cell (p := ⟨b, off + (g + j) * 2 + 1, none⟩) hbl).trans (hc (g + j) hgj).2
              have z0 : wr.cell? ⟨bz, oz + j * 2, none⟩ = some (.int .i64 (R.getD j du0).a) := (hbw.cell (p := ⟨bz, oz + j * 2, none⟩) hblz).trans (hcz j hlt3).1
              have z1 : wr.cell? ⟨bz, oz + j * 2 + 1, none⟩ = some (.int .i64 (R.getD j du0).b) := (hbw.cell (p := ⟨bz, oz + j * 2 + 1, none⟩) hblz).trans (hcz j hlt3).2
              rw [hat] at z0 z1 hon
              have i1 : (0 : Int) ≤ (g : Int) + (j : Int) := by omega
              have i2 : ((g : Int) + (j : Int)).toNat = g + j := by omega
              have la0 := hlo.1.1
              have la1 := hlo.1.2
              clear hc hcz hat hlo hbw
              generalize (L.getD (g + j) du0).a = la at *
              generalize (L.getD (g + j) du0).b = lb at *
              by_cases hj0 : j = 0
              · subst hj0
                rw [if_pos rfl] at z0 hon
                have hlz : ∃ lz, lz = la - (P - SM) := ⟨_, rfl⟩
                obtain ⟨lz, hlz⟩ := hlz
                have HLZ : Hid (lz = la - (P - SM)) := hlz
                simp only [Nat.add_zero] at c0 c1
                have z0 : wr.cell? ⟨bz, oz, none⟩ = some (.int .i64 lz) := by rw [hlz]; simpa using z0
                have z1 : wr.cell? ⟨bz, oz + 1, none⟩ = some (.int .i64 lb) := by simpa using z1
                have hon : 1 ≤ lz := by rw [hlz]; exact hon
                clear hlz
                have HBA : Hid (Below w5.heap.size w5 (wr.alloc (.cells #[.int .i64 lz, .int .i64 lb] 43))) := HBW.out.alloc HBW.out.size _
                have HBL : Hid (Blk (wr.alloc (.cells #[.int .i64 lz, .int .i64 lb] 43)) wr.heap.size #[.int .i64 lz, .int .i64 lb] 43) := Blk.new wr _ _
                have HCZ : Hid ((wr.alloc (.cells #[.int .i64 lz, .int .i64 lb] 43)).cell? ⟨bz, oz, none⟩ = some (.int .i64 lz) ∧ (wr.alloc (.cells #[.int .i64 lz, .int .i64 lb] 43)).cell? ⟨bz, oz + 1, none⟩ = some (.int .i64 lb)) := ⟨(World.cell?_alloc_lt wr _ ⟨bz, oz, none⟩ (World.block_lt_of_cell? wr _ z0)).trans z0, (World.cell?_alloc_lt wr _ ⟨bz, oz + 1, none⟩ (World.block_lt_of_cell? wr _ z1)).trans z1⟩
                have hq : ∀ wz : World, (Op.equalIn 10000 43 (.agg #[.int .i64 lz, .int .i64 lb]) (.agg #[.int .i64 lz, .int .i64 lb])).run Try.prog wz = .ok true wz := fun wz => by rw [eqDebt]; simp
                have hd1 : decide (lz < 1) = false := decide_eq_false (by omega)
                clear z0 z1
                go_upto_region 25 with fail
                rw [← HLZ.out]
                generalize (wr.alloc (.cells #[.int .i64 lz, .int .i64 lb] 43)) = WA at *
                refine wp_region_held_drew (S := fun v => v.cell? ⟨bz, oz, none⟩ = some (.int .i64 lz) ∧ v.cell? ⟨bz, oz + 1, none⟩ = some (.int .i64 lb) ∧ Blk v wr.heap.size #[.int .i64 lz, .int .i64 lb] 43) (by kernel_rfl) ⟨HCZ.out.1, HCZ.out.2, Blk.drew HBL.out 1⟩ (fun hHeld => ?_)
                refine take_at 0 91 (.slice (some ⟨bz, oz, none⟩) nz cz) _ rfl rfl (by kernel_rfl) (by kernel_rfl) (by kernel_rfl) (fun _ _ _ h => h) (Or.inl ⟨by rfl, fun v hv => by skip; clear hv; go_simp⟩) hHeld ?_
                simp only [Act.put, List.setIfInBounds_toArray, List.set_cons_zero, List.set_cons_succ]
                refine take_at 1 92 (.int .i64 0) _ rfl rfl (by kernel_rfl) (by kernel_rfl) (by kernel_rfl) (fun _ _ _ h => h) (Or.inl ⟨by rfl, fun v hv => by skip; clear hv; go_simp⟩) hHeld ?_
                simp only [Act.put, List.setIfInBounds_toArray, List.set_cons_zero, List.set_cons_succ]
                refine take_at 2 93 (.pointer (some ⟨bz, oz, none⟩)) _ rfl rfl (by kernel_rfl) (by kernel_rfl) (by kernel_rfl) (fun _ _ _ h => h) (Or.inl ⟨by rfl, fun v hv => by skip; clear hv; go_simp⟩) hHeld ?_
                simp only [Act.put, List.setIfInBounds_toArray, List.set_cons_zero, List.set_cons_succ]
                refine take_at 3 94 (.agg #[.int .i64 lz, .int .i64 lb]) _ rfl rfl (by kernel_rfl) (by kernel_rfl) (by kernel_rfl) (fun _ _ _ h => h) (Or.inl ⟨by rfl, fun v hv => by have h2 := hv.1; have h3 := hv.2.1; clear hv; go_simp⟩) hHeld ?_
                simp only [Act.put, List.setIfInBounds_toArray, List.set_cons_zero, List.set_cons_succ]
                refine take_at 4 95 (.agg #[.int .i64 lz, .int .i64 lb]) _ rfl rfl (by kernel_rfl) (by kernel_rfl) (by kernel_rfl) (fun _ _ _ h => h) (Or.inl ⟨by rfl, fun v hv => by have h2 := hv.2.2.cell 0; have h3 := hv.2.2.cell 1; clear hv; go_simp⟩) hHeld ?_
                simp only [Act.put, List.setIfInBounds_toArray, List.set_cons_zero, List.set_cons_succ]
                refine take_at 5 96 (.bool false) _ rfl rfl (by kernel_rfl) (by kernel_rfl) (by kernel_rfl) (fun _ _ _ h => h) (Or.inl ⟨by rfl, fun v hv => by skip; clear hv; go_simp⟩) hHeld ?_
                simp only [Act.put, List.setIfInBounds_toArray, List.set_cons_zero, List.set_cons_succ]
                refine take_at 6 97 (.bool false) _ rfl rfl (by kernel_rfl) (by kernel_rfl) (by kernel_rfl) (fun _ _ _ h => h) (Or.inl ⟨by rfl, fun v hv => by skip; clear hv; go_simp⟩) hHeld ?_
                simp only [Act.put, List.setIfInBounds_toArray, List.set_cons_zero, List.set_cons_succ]
                refine take_at 7 98 (.slice (some ⟨bz, oz, none⟩) nz cz) _ rfl rfl (by kernel_rfl) (by kernel_rfl) (by kernel_rfl) (fun _ _ _ h => h) (Or.inl ⟨by rfl, fun v hv => by skip; clear hv; go_simp⟩) hHeld ?_
                simp only [Act.put, List.setIfInBounds_toArray, List.set_cons_zero, List.set_cons_succ]
                refine take_at 8 99 (.int .i64 0) _ rfl rfl (by kernel_rfl) (by kernel_rfl) (by kernel_rfl) (fun _ _ _ h => h) (Or.inl ⟨by rfl, fun v hv => by skip; clear hv; go_simp⟩) hHeld ?_
                simp only [Act.put, List.setIfInBounds_toArray, List.set_cons_zero, List.set_cons_succ]
                refine take_at 9 100 (.pointer (some ⟨bz, oz, none⟩)) _ rfl rfl (by kernel_rfl) (by kernel_rfl) (by kernel_rfl) (fun _ _ _ h => h) (Or.inl ⟨by rfl, fun v hv => by skip; clear hv; go_simp⟩) hHeld ?_
                simp only [Act.put, List.setIfInBounds_toArray, List.set_cons_zero, List.set_cons_succ]
                refine take_at 10 101 (.pointer (some ⟨bz, oz, none⟩)) _ rfl rfl (by kernel_rfl) (by kernel_rfl) (by kernel_rfl) (fun _ _ _ h => h) (Or.inl ⟨by rfl, fun v hv => by skip; clear hv; go_simp⟩) hHeld ?_
                simp only [Act.put, List.setIfInBounds_toArray, List.set_cons_zero, List.set_cons_succ]
                refine take_at 11 102 (.int .i64 lz) _ rfl rfl (by kernel_rfl) (by kernel_rfl) (by kernel_rfl) (fun _ _ _ h => h) (Or.inl ⟨by rfl, fun v hv => by have h2 := hv.1; clear hv; go_simp⟩) hHeld ?_
                simp only [Act.put, List.setIfInBounds_toArray, List.set_cons_zero, List.set_cons_succ]
                refine take_at 12 103 (.bool false) _ rfl rfl (by kernel_rfl) (by kernel_rfl) (by kernel_rfl) (fun _ _ _ h => h) (Or.inl ⟨by rfl, fun v hv => by skip; clear hv; go_simp⟩) hHeld ?_
                simp only [Act.put, List.setIfInBounds_toArray, List.set_cons_zero, List.set_cons_succ]
                refine take_at 13 104 (.bool false) _ rfl rfl (by kernel_rfl) (by kernel_rfl) (by kernel_rfl) (fun _ _ _ h => h) (Or.inl ⟨by rfl, fun v hv => by skip; clear hv; go_simp⟩) hHeld ?_
                simp only [Act.put, List.setIfInBounds_toArray, List.set_cons_zero, List.set_cons_succ]
                refine wpAnyH_done (by kernel_rfl) ?_ _
                have HBF : Hid (Below w5.heap.size w5 WA.drew) := HBA.out.drew
                clear hHeld HBA HBL HCZ
                go_wp2_with fail
                go_roundw
                case rel => exact ⟨0 + 1, by omega, by go_num, HBF.out⟩
                case measure => simp [intOf]; omega
              · have hj1 : ((j : Int) == 0) = false := by simpa using hj0
                rw [if_neg hj0, Int.sub_zero] at z0 hon
                have hlz : ∃ lz, lz = la := ⟨_, rfl⟩
                obtain ⟨lz, rfl⟩ := hlz
                have hon : 1 ≤ lz := hon
                have z1 : wr.cell? ⟨bz, oz + j * 2 + 1, none⟩ = some (.int .i64 lb) := z1
                clear hj0
                have HBA : Hid (Below w5.heap.size w5 (wr.alloc (.cells #[.int .i64 lz, .int .i64 lb] 43))) := HBW.out.alloc HBW.out.size _
                have HBL : Hid (Blk (wr.alloc (.cells #[.int .i64 lz, .int .i64 lb] 43)) wr.heap.size #[.int .i64 lz, .int .i64 lb] 43) := Blk.new wr _ _
                have HCZ : Hid ((wr.alloc (.cells #[.int .i64 lz, .int .i64 lb] 43)).cell? ⟨bz, oz + j * 2, none⟩ = some (.int .i64 lz) ∧ (wr.alloc (.cells #[.int .i64 lz, .int .i64 lb] 43)).cell? ⟨bz, oz + j * 2 + 1, none⟩ = some (.int .i64 lb)) := ⟨(World.cell?_alloc_lt wr _ ⟨bz, oz + j * 2, none⟩ (World.block_lt_of_cell? wr _ z0)).trans z0, (World.cell?_alloc_lt wr _ ⟨bz, oz + j * 2 + 1, none⟩ (World.block_lt_of_cell? wr _ z1)).trans z1⟩
                have hq : ∀ wz : World, (Op.equalIn 10000 43 (.agg #[.int .i64 lz, .int .i64 lb]) (.agg #[.int .i64 lz, .int .i64 lb])).run Try.prog wz = .ok true wz := fun wz => by rw [eqDebt]; simp
                have hd1 : decide (lz < 1) = false := decide_eq_false (by omega)
                clear z0 z1
                go_upto_region 25 with fail
                generalize (wr.alloc (.cells #[.int .i64 lz, .int .i64 lb] 43)) = WA at *
                refine wp_region_held_drew (S := fun v => v.cell? ⟨bz, oz + j * 2, none⟩ = some (.int .i64 lz) ∧ v.cell? ⟨bz, oz + j * 2 + 1, none⟩ = some (.int .i64 lb) ∧ Blk v wr.heap.size #[.int .i64 lz, .int .i64 lb] 43) (by kernel_rfl) ⟨HCZ.out.1, HCZ.out.2, Blk.drew HBL.out 1⟩ (fun hHeld => ?_)
                refine take_at 0 91 (.slice (some ⟨bz, oz, none⟩) nz cz) _ rfl rfl (by kernel_rfl) (by kernel_rfl) (by kernel_rfl) (fun _ _ _ h => h) (Or.inl ⟨by rfl, fun v hv => by skip; clear hv; go_simp⟩) hHeld ?_
                simp only [Act.put, List.setIfInBounds_toArray, List.set_cons_zero, List.set_cons_succ]
                refine take_at 1 92 (.int .i64 (j : Int)) _ rfl rfl (by kernel_rfl) (by kernel_rfl) (by kernel_rfl) (fun _ _ _ h => h) (Or.inl ⟨by rfl, fun v hv => by skip; clear hv; go_simp⟩) hHeld ?_
                simp only [Act.put, List.setIfInBounds_toArray, List.set_cons_zero, List.set_cons_succ]
                refine take_at 2 93 (.pointer (some ⟨bz, oz + j * 2, none⟩)) _ rfl rfl (by kernel_rfl) (by kernel_rfl) (by kernel_rfl) (fun _ _ _ h => h) (Or.inl ⟨by rfl, fun v hv => by skip; clear hv; go_simp⟩) hHeld ?_
                simp only [Act.put, List.setIfInBounds_toArray, List.set_cons_zero, List.set_cons_succ]
                refine take_at 3 94 (.agg #[.int .i64 lz, .int .i64 lb]) _ rfl rfl (by kernel_rfl) (by kernel_rfl) (by kernel_rfl) (fun _ _ _ h => h) (Or.inl ⟨by rfl, fun v hv => by have h2 := hv.1; have h3 := hv.2.1; clear hv; go_simp⟩) hHeld ?_
                simp only [Act.put, List.setIfInBounds_toArray, List.set_cons_zero, List.set_cons_succ]
                refine take_at 4 95 (.agg #[.int .i64 lz, .int .i64 lb]) _ rfl rfl (by kernel_rfl) (by kernel_rfl) (by kernel_rfl) (fun _ _ _ h => h) (Or.inl ⟨by rfl, fun v hv => by have h2 := hv.2.2.cell 0; have h3 := hv.2.2.cell 1; clear hv; go_simp⟩) hHeld ?_
                simp only [Act.put, List.setIfInBounds_toArray, List.set_cons_zero, List.set_cons_succ]
                refine take_at 5 96 (.bool false) _ rfl rfl (by kernel_rfl) (by kernel_rfl) (by kernel_rfl) (fun _ _ _ h => h) (Or.inl ⟨by rfl, fun v hv => by skip; clear hv; go_simp⟩) hHeld ?_
                simp only [Act.put, List.setIfInBounds_toArray, List.set_cons_zero, List.set_cons_succ]
                refine take_at 6 97 (.bool false) _ rfl rfl (by kernel_rfl) (by kernel_rfl) (by kernel_rfl) (fun _ _ _ h => h) (Or.inl ⟨by rfl, fun v hv => by skip; clear hv; go_simp⟩) hHeld ?_
                simp only [Act.put, List.setIfInBounds_toArray, List.set_cons_zero, List.set_cons_succ]
                refine take_at 7 98 (.slice (some ⟨bz, oz, none⟩) nz cz) _ rfl rfl (by kernel_rfl) (by kernel_rfl) (by kernel_rfl) (fun _ _ _ h => h) (Or.inl ⟨by rfl, fun v hv => by skip; clear hv; go_simp⟩) hHeld ?_
                simp only [Act.put, List.setIfInBounds_toArray, List.set_cons_zero, List.set_cons_succ]
                refine take_at 8 99 (.int .i64 (j : Int)) _ rfl rfl (by kernel_rfl) (by kernel_rfl) (by kernel_rfl) (fun _ _ _ h => h) (Or.inl ⟨by rfl, fun v hv => by skip; clear hv; go_simp⟩) hHeld ?_
                simp only [Act.put, List.setIfInBounds_toArray, List.set_cons_zero, List.set_cons_succ]
                refine take_at 9 100 (.pointer (some ⟨bz, oz + j * 2, none⟩)) _ rfl rfl (by kernel_rfl) (by kernel_rfl) (by kernel_rfl) (fun _ _ _ h => h) (Or.inl ⟨by rfl, fun v hv => by skip; clear hv; go_simp⟩) hHeld ?_
                simp only [Act.put, List.setIfInBounds_toArray, List.set_cons_zero, List.set_cons_succ]
                refine take_at 10 101 (.pointer (some ⟨bz, oz + j * 2, none⟩)) _ rfl rfl (by kernel_rfl) (by kernel_rfl) (by kernel_rfl) (fun _ _ _ h => h) (Or.inl ⟨by rfl, fun v hv => by skip; clear hv; go_simp⟩) hHeld ?_
                simp only [Act.put, List.setIfInBounds_toArray, List.set_cons_zero, List.set_cons_succ]
                refine take_at 11 102 (.int .i64 lz) _ rfl rfl (by kernel_rfl) (by kernel_rfl) (by kernel_rfl) (fun _ _ _ h => h) (Or.inl ⟨by rfl, fun v hv => by have h2 := hv.1; clear hv; go_simp⟩) hHeld ?_
                simp only [Act.put, List.setIfInBounds_toArray, List.set_cons_zero, List.set_cons_succ]
                refine take_at 12 103 (.bool false) _ rfl rfl (by kernel_rfl) (by kernel_rfl) (by kernel_rfl) (fun _ _ _ h => h) (Or.inl ⟨by rfl, fun v hv => by skip; clear hv; go_simp⟩) hHeld ?_
                simp only [Act.put, List.setIfInBounds_toArray, List.set_cons_zero, List.set_cons_succ]
                refine take_at 13 104 (.bool false) _ rfl rfl (by kernel_rfl) (by kernel_rfl) (by kernel_rfl) (fun _ _ _ h => h) (Or.inl ⟨by rfl, fun v hv => by skip; clear hv; go_simp⟩) hHeld ?_
                simp only [Act.put, List.setIfInBounds_toArray, List.set_cons_zero, List.set_cons_succ]
                refine wpAnyH_done (by kernel_rfl) ?_ _
                have HBF : Hid (Below w5.heap.size w5 WA.drew) := HBA.out.drew
                clear hHeld HBA HBL HCZ
                go_wp2_with fail
                go_roundw
                case rel => exact ⟨j + 1, by omega, by go_num, HBF.out⟩
                case measure => simp [intOf]; omega
            · obtain rfl : nz = j := by omega
              have hdl3 : decide ((nz : Int) < (nz : Int)) = false := by simp
              have BF : Hid (Below w.heap.size w wr) := B4.out.trans (hbw.mono B4.out.size)
              clear hbw
              by_cases hz : 0 < nz
              · have hdz : decide (0 < nz) = true := decide_eq_true hz
                have hdz2 : decide (0 < (nz : Int)) = true := decide_eq_true (by omega)
                clear hz
                go_wp2_with fail
                all_goals first
                  | (rename_i q1 q2; exact absurd q1 (by simp [undef]))
                  | (go_ret; exact ⟨rfl, BF.out⟩)
              · have hdz : decide (0 < nz) = false := decide_eq_false hz
                have hdz2 : decide (0 < (nz : Int)) = false := decide_eq_false (by omega)
                have hps : P = SM := HNO.out (List.eq_nil_of_length_eq_zero (by rw [HNZ.out]; omega))
                have hpe : (P == SM) = true := by simpa using hps
                clear hz hps
                go_wp2_with fail
                go_ret
                exact ⟨rfl, BF.out⟩

end Go.Proofs.Ytodnlecccgiogaa.deb
