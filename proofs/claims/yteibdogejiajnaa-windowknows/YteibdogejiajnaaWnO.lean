/- No number is taken twice. -/
import Derived.Test.YteibdogejiajnaaWnK
namespace Go.Proofs.Yteibdogejiajnaa.win
open Go.RowKit Go.Proofs.Yteibdogejiajnaa.irow Go.Proofs.Yteibdogejiajnaa.check
set_option maxRecDepth 100000
set_option linter.unusedVariables false

/-- What the round leaves: the window, and the numbers that were taken. -/
structure Had (w wr : World) (V : Value) (h : Int) (b : Nat) (had : List Int) : Prop where
  own : Iw wr (w.heap.size + 1) V had
  win : Win wr w.heap.size h b
  rep : Rep h b (fun x => x ∈ had)
  bel : Below w.heap.size w wr
theorem Had.next {w wr w' : World} {V : Value} {h : Int} {b : Nat} {had : List Int} (hx : Had w wr V h b had) (hb : Below wr.heap.size wr w') : Had w w' V h b had := ⟨hx.own.next hb, Blk.next hx.win hb, hx.rep, bel_step hx.bel hb⟩
theorem Had.alloc {w wr : World} {V : Value} {h : Int} {b : Nat} {had : List Int} (hx : Had w wr V h b had) (o : Obj) : Had w (wr.alloc o) V h b had := hx.next ((Below.refl _ _).alloc (Nat.le_refl _) _)
theorem mem_take_succ {l : List Int} {t : Nat} (ht : t < l.length) (x : Int) : x ∈ l.take (t + 1) ↔ x ∈ l.take t ∨ l.getD t 0 = x := by
  have e : l.getD t 0 = l[t] := by rw [List.getD_eq_getElem?_getD, List.getElem?_eq_getElem ht]; rfl
  rw [List.take_succ_eq_append_getElem ht, List.mem_append, e]
  simp
  constructor
  · rintro (h | h)
    · exact .inl h
    · exact .inr h.symm
  · rintro (h | h)
    · exact .inl h
    · exact .inr h.symm

set_option maxHeartbeats 4000000 in
theorem once_walk (K : WKit) (a0 : Option Addr) (len0 cap0 : Nat) (z0 : List Int) (w : World) (hr : RowF w a0 len0 z0) :
    Calls Try.prog 6 #[.slice a0 len0 cap0] w fun e w' => e = .returned (.bool true) ∧ Below w.heap.size w w' := by
  have HK : Hid WKit := K
  have HR : Hid (RowF w a0 len0 z0) := hr
  have HW0 : Hid (Had w (w.alloc (.cells #[.int .i64 0, .int .u64 0] 24)) (.slice none 0 0) 0 0 []) :=
    ⟨Iw.zero _ _, Blk.new w _ _, by have := Rep.zero; exact ⟨this.lt, fun t ht => by simp, .inl ⟨rfl, fun x h => by cases h⟩, (fun x h => by cases h), this.low, this.most⟩, (Below.refl _ _).alloc (Nat.le_refl _) _⟩
  clear K hr
  go_enter Try.func6, Try.ntmps6
  go_wp2_with fail
  generalize w.alloc (.cells #[.int .i64 0, .int .u64 0] 24) = W0 at *
  go_loopw [4, 5, 6] (fun v4 v5 j wr => ∃ (k : Nat) (h : Int) (b : Nat) (had : List Int) (V : Value), V = v4 ∧ v5 = .int .i64 h ∧ j = .int .i64 (k : Int) ∧ k ≤ 300 ∧ k ≤ len0 ∧ 0 ≤ h ∧ h ≤ 300 ∧ had.length ≤ k ∧ Had w wr V h b had) (fun _ _ j _ => 300 - (intOf j).toNat)
  case atStart => exact ⟨0, 0, 0, [], _, rfl, rfl, rfl, Nat.zero_le _, Nat.zero_le _, by decide, by decide, Nat.zero_le _, HW0.out⟩
  case round =>
    obtain ⟨k, h, b, had, V, hV, rfl, rfl, hk, hkl, h0, h3, hl, hh⟩ := hrel
    subst hV
    clear HW0
    obtain ⟨a, cap, rfl, hrow, _, _⟩ := hh.own.row
    obtain ⟨n, hn⟩ : ∃ n, had.length = n := ⟨_, rfl⟩
    rw [hn] at hl
    have HI : Hid (Had w wr (.slice a n cap) h b had) := by rw [hn] at hh; exact hh
    have HRH : Hid (RowN wr a n had) := by rw [hn] at hrow; exact hrow
    have HN : Hid (had.length = n) := hn
    rw [hn]
    clear hh hrow hn
    by_cases hgo : k < len0 ∧ k < 300
    · obtain ⟨g1, g2⟩ := hgo
      obtain ⟨bi, oi, rfl, hcell, hwf⟩ := (HR.out.below HI.out.bel) k g1
      have HPK : Hid (∀ W, Calls Try.prog 16 #[.int .i64 (z0.getD k 0), .int .i64 300] W fun e w' => e = .returned (.int .i64 (((pick (z0.getD k 0) 300).toNat : Nat) : Int)) ∧ w' = W) := fun W => picked_nat _ 300 W hwf (by decide) (by decide)
      have hp : (pick (z0.getD k 0) 300).toNat < 300 := pick_toNat _ 300 (by decide)
      clear hwf
      generalize (pick (z0.getD k 0) 300).toNat = r at *
      generalize z0.getD k 0 = zk at *
      have HTK : Hid (∀ W, Calls Try.prog 11 #[.agg #[.int .i64 h, .int .u64 (b : Int)], .int .i64 (1 + (r : Int))] W fun e w' => Took W h b (fun x => x ∈ had) (1 + (r : Int)) e w') := fun W => HK.out.took HI.out.rep W _ (by omega) (by omega)
      go_wp2_with fail
      refine (HPK.out _).mono ?_
      rintro e w1 ⟨rfl, rfl⟩
      go_wp2_with fail
      clear hcell HPK
      go_loopw [8, 9] (fun v8 i wr => ∃ (t : Nat) (c : Int), v8 = .int .i64 c ∧ i = .int .i64 (t : Int) ∧ t ≤ n ∧ Hid ((1 + (r : Int) ∈ had.take t ∧ c = 14) ∨ (1 + (r : Int) ∉ had.take t ∧ c = 0)) ∧ wr = w1) (fun _ i _ => n - (intOf i).toNat)
      case atStart => exact ⟨0, 0, rfl, rfl, Nat.zero_le _, .inr ⟨by simp, rfl⟩, rfl⟩
      case round =>
        obtain ⟨t, c, rfl, rfl, ht, HC, rfl⟩ := hrel
        by_cases htl : t < n
        · obtain ⟨bl, off, rfl, _, hc⟩ := HRH.out.at (by omega)
          have g3 := hc t htl
          have hms := mem_take_succ (l := had) (t := t) (by rw [HN.out]; exact htl) (1 + (r : Int))
          clear hc
          by_cases hx : had.getD t 0 = 1 + (r : Int)
          · have HC2 : Hid ((1 + (r : Int) ∈ had.take (t + 1) ∧ (14 : Int) = 14) ∨ (1 + (r : Int) ∉ had.take (t + 1) ∧ (14 : Int) = 0)) := .inl ⟨hms.2 (.inr hx), rfl⟩
            have hq : (had.getD t 0 == 1 + (r : Int)) = true := by rw [hx]; exact beq_self_eq_true _
            clear hx hms HC
            generalize had.getD t 0 = x at g3 hq
            go_wp2_with fail
            go_roundw
            case rel => exact ⟨t + 1, 14, rfl, by go_num, by omega, HC2, trivial⟩
            case measure => simp [intOf]; omega
          · have HC2 : Hid ((1 + (r : Int) ∈ had.take (t + 1) ∧ c = 14) ∨ (1 + (r : Int) ∉ had.take (t + 1) ∧ c = 0)) := by
              rcases HC.out with ⟨h1, h2⟩ | ⟨h1, h2⟩
              · exact .inl ⟨hms.2 (.inl h1), h2⟩
              · exact .inr ⟨fun hm => (hms.1 hm).elim h1 hx, h2⟩
            have hq : (had.getD t 0 == 1 + (r : Int)) = false := by simp only [beq_eq_false_iff_ne, ne_eq]; exact hx
            clear hx hms HC
            generalize had.getD t 0 = x at g3 hq
            go_wp2_with fail
            go_roundw
            case rel => exact ⟨t + 1, c, rfl, by go_num, by omega, HC2, trivial⟩
            case measure => simp [intOf]; omega
        · obtain rfl : n = t := by omega
          have HC2 : Hid ((1 + (r : Int) ∈ had ∧ c = 14) ∨ (1 + (r : Int) ∉ had ∧ c = 0)) := by
            have := HC.out
            rw [List.take_of_length_le (by rw [HN.out]; exact Nat.le_refl _)] at this
            exact this
          clear HC
          have x0 := HI.out.win.cell 0
          have x1 := HI.out.win.cell 1
          by_cases hold : 1 + (r : Int) ≤ h - 64
          · go_wp2_with fail
            refine (HTK.out _).mono ?_
            rintro e w2 ⟨hb2, hor⟩
            have he : e = .returned (.tuple #[.agg #[.int .i64 0, .int .u64 0], .int .i64 13]) := by
              rcases hor with ⟨_, _, _, _, hx, _⟩ | ⟨he, _⟩ | ⟨_, hx, _⟩
              · exact absurd hold hx
              · exact he
              · exact absurd hold hx
            subst he
            have H3 : Hid (Had w (w2.alloc (.cells #[.int .i64 0, .int .u64 0] 24)) (.slice a n cap) h b had) := (HI.out.next hb2).alloc _
            clear hor hb2 x0 x1
            go_wp2_with fail
            go_roundw
            case rel => exact ⟨k + 1, h, b, had, _, rfl, rfl, by go_num, by omega, by omega, h0, h3, by rw [HN.out]; omega, H3.out⟩
            case measure => simp [intOf]; omega
          · have hd : decide (1 + (r : Int) ≤ h - 64) = false := by simp; omega
            rcases HC2.out with ⟨hin, hc⟩ | ⟨hin, hc⟩
            · subst hc
              go_wp2_with fail
              refine (HTK.out _).mono ?_
              rintro e w2 ⟨hb2, hor⟩
              have he : e = .returned (.tuple #[.agg #[.int .i64 0, .int .u64 0], .int .i64 14]) := by
                rcases hor with ⟨_, _, _, _, _, hx, _⟩ | ⟨_, hx⟩ | ⟨he, _, _⟩
                · exact absurd hin hx
                · exfalso; omega
                · exact he
              subst he
              have H3 : Hid (Had w (w2.alloc (.cells #[.int .i64 0, .int .u64 0] 24)) (.slice a n cap) h b had) := (HI.out.next hb2).alloc _
              clear hor hb2 x0 x1 hin HC2
              go_wp2_with fail
              go_roundw
              case rel => exact ⟨k + 1, h, b, had, _, rfl, rfl, by go_num, by omega, by omega, h0, h3, by rw [HN.out]; omega, H3.out⟩
              case measure => simp [intOf]; omega
            · subst hc
              go_wp2_with fail
              refine (HTK.out _).mono ?_
              rintro e w2 ⟨hb2, hor⟩
              have he : ∃ h' b', e = .returned (.tuple #[.agg #[.int .i64 h', .int .u64 ((b' : Nat) : Int)], .int .i64 0]) ∧ h' = max h (1 + (r : Int)) ∧ Rep h' b' (fun x => x ∈ had ∨ x = 1 + (r : Int)) := by
                rcases hor with ⟨h', b', he, hh, _, _, hrp⟩ | ⟨_, hx⟩ | ⟨_, _, hx⟩
                · exact ⟨h', b', he, hh, hrp⟩
                · exfalso; omega
                · exact absurd hx hin
              obtain ⟨h', b', rfl, hh, hrp⟩ := he
              have H2 : Hid (Had w w2 (.slice a n cap) h b had) := HI.out.next hb2
              have HRP : Hid (Rep h' b' (fun x => x ∈ had ++ [1 + (r : Int)])) := by
                refine ⟨hrp.lt, fun t ht => ?_, ?_, fun x hx => hrp.range x (by simpa using hx), hrp.low, hrp.most⟩
                · rw [hrp.bits t ht]; simp
                · rcases hrp.top with ⟨e1, e2⟩ | e1
                  · exact .inl ⟨e1, fun x hx => e2 x (by simpa using hx)⟩
                  · exact .inr (by simpa using e1)
              have HHH : Hid (h' = max h (1 + (r : Int))) := hh
              have hh1 : 0 ≤ h' := by omega
              have hh2 : h' ≤ 300 := by omega
              clear hor hrp hb2 x0 x1 hin HC2 HTK hd hh
              have hN := Blk.new w2 #[.int .i64 h', .int .u64 (b' : Int)] 24
              have n0 := hN.cell 0
              have n1 := hN.cell 1
              have hG := Blk.alloc H2.out.win (.cells #[.int .i64 h', .int .u64 (b' : Int)] 24)
              have x0 := hG.cell 0
              have x1 := hG.cell 1
              have y0 := hG.free 0
              have y1 := hG.free 1
              have H4 : Iw (setWn (w2.alloc (.cells #[.int .i64 h', .int .u64 (b' : Int)] 24)) w.heap.size h' b') (w.heap.size + 1) (.slice a n cap) had := ((H2.out.own.alloc _).put _ _ _ (Nat.lt_succ_self _)).put _ _ _ (Nat.lt_succ_self _)
              have hW4 : Win (setWn (w2.alloc (.cells #[.int .i64 h', .int .u64 (b' : Int)] 24)) w.heap.size h' b') w.heap.size h' b' := Win.set hG h' b'
              have hB4 : Below w.heap.size w (setWn (w2.alloc (.cells #[.int .i64 h', .int .u64 (b' : Int)] 24)) w.heap.size h' b') := bel_win (H2.out.bel.alloc H2.out.bel.size _) _ (Nat.le_refl _) _ _
              unfold setWn at H4 hW4 hB4
              have HS : Hid (w.heap.size + 1 ≤ (((w2.alloc (.cells #[.int .i64 h', .int .u64 (b' : Int)] 24)).setCell ⟨w.heap.size, 0, none⟩ (.int .i64 h')).setCell ⟨w.heap.size, 1, none⟩ (.int .u64 (b' : Int))).heap.size) := hW4.lt
              have HIW : Hid (Iw (((w2.alloc (.cells #[.int .i64 h', .int .u64 (b' : Int)] 24)).setCell ⟨w.heap.size, 0, none⟩ (.int .i64 h')).setCell ⟨w.heap.size, 1, none⟩ (.int .u64 (b' : Int))) (w.heap.size + 1) (.slice a n cap) had ∧ Win (((w2.alloc (.cells #[.int .i64 h', .int .u64 (b' : Int)] 24)).setCell ⟨w.heap.size, 0, none⟩ (.int .i64 h')).setCell ⟨w.heap.size, 1, none⟩ (.int .u64 (b' : Int))) w.heap.size h' b' ∧ Below w.heap.size w (((w2.alloc (.cells #[.int .i64 h', .int .u64 (b' : Int)] 24)).setCell ⟨w.heap.size, 0, none⟩ (.int .i64 h')).setCell ⟨w.heap.size, 1, none⟩ (.int .u64 (b' : Int)))) := ⟨H4, hW4, hB4⟩
              clear H4 hW4 hB4 hN hG H2
              have HXS : (((w2.alloc (.cells #[.int .i64 h', .int .u64 (b' : Int)] 24)).setCell ⟨w.heap.size, 0, none⟩ (.int .i64 h')).setCell ⟨w.heap.size, 1, none⟩ (.int .u64 (b' : Int))).heap.size = w2.heap.size + 1 := by simp
              have HG : Hid (((((w2.alloc (.cells #[.int .i64 h', .int .u64 (b' : Int)] 24)).setCell ⟨w.heap.size, 0, none⟩ (.int .i64 h')).setCell ⟨w.heap.size, 1, none⟩ (.int .u64 (b' : Int))).alloc (.cells #[.int .i64 (1 + (r : Int))] 3)).cell? ⟨w2.heap.size + 1, 0, none⟩ = some (.int .i64 (1 + (r : Int)))) := by
                have := num_cell (((w2.alloc (.cells #[.int .i64 h', .int .u64 (b' : Int)] 24)).setCell ⟨w.heap.size, 0, none⟩ (.int .i64 h')).setCell ⟨w.heap.size, 1, none⟩ (.int .u64 (b' : Int))) (1 + (r : Int))
                rw [HXS] at this; exact this
              have HOA : Hid (Iw ((((w2.alloc (.cells #[.int .i64 h', .int .u64 (b' : Int)] 24)).setCell ⟨w.heap.size, 0, none⟩ (.int .i64 h')).setCell ⟨w.heap.size, 1, none⟩ (.int .u64 (b' : Int))).alloc (.cells #[.int .i64 (1 + (r : Int))] 3)) (w.heap.size + 1) (.slice a n cap) had) := HIW.out.1.alloc _
              have HSZ : Hid (w.heap.size + 1 ≤ ((((w2.alloc (.cells #[.int .i64 h', .int .u64 (b' : Int)] 24)).setCell ⟨w.heap.size, 0, none⟩ (.int .i64 h')).setCell ⟨w.heap.size, 1, none⟩ (.int .u64 (b' : Int))).alloc (.cells #[.int .i64 (1 + (r : Int))] 3)).heap.size) := ialloc_le HS.out _
              have HBX : Hid (Below w.heap.size w ((((w2.alloc (.cells #[.int .i64 h', .int .u64 (b' : Int)] 24)).setCell ⟨w.heap.size, 0, none⟩ (.int .i64 h')).setCell ⟨w.heap.size, 1, none⟩ (.int .u64 (b' : Int))).alloc (.cells #[.int .i64 (1 + (r : Int))] 3)) ∧ Win ((((w2.alloc (.cells #[.int .i64 h', .int .u64 (b' : Int)] 24)).setCell ⟨w.heap.size, 0, none⟩ (.int .i64 h')).setCell ⟨w.heap.size, 1, none⟩ (.int .u64 (b' : Int))).alloc (.cells #[.int .i64 (1 + (r : Int))] 3)) w.heap.size h' b') := ⟨HIW.out.2.2.alloc HIW.out.2.2.size _, Blk.alloc HIW.out.2.1 _⟩
              have HLN : Hid (had.length ≤ 1000000) := by show _ ≤ _; rw [HN.out]; omega
              clear HXS HIW HS
              go_wp2_with (first
                | (at_builtin; refine wp_num rfl _ _ rfl (w.heap.size + 1) (w2.heap.size + 1) _ had (1 + (r : Int)) rfl rfl HOA.out HG.out HLN.out HSZ.out ?_)
                | go_in)
              intro v' w4 hL4 hg4
              have HF : Hid (Had w w4 v' h' b' (had ++ [1 + (r : Int)])) := ⟨hL4, Blk.grown HBX.out.2 hg4 (iown_far HOA.out (Nat.lt_succ_self _)), HRP.out, iown_bel HOA.out hg4 HBX.out.1 (Nat.le_succ _) (Nat.le_of_succ_le HSZ.out)⟩
              have HLL : Hid ((had ++ [1 + (r : Int)]).length ≤ k + 1) := by show _ ≤ _; rw [List.length_append, HN.out]; simp; omega
              clear hL4 hg4 HBX HOA HG HSZ x0 x1 y0 y1 n0 n1
              go_wp2_with fail
              have HMX : Hid ((if h < 1 + (r : Int) then 1 + (r : Int) else h) = h') := by
                show _ = _
                rw [HHH.out]; split <;> omega
              refine ⟨⟨k + 1, h', b', had ++ [1 + (r : Int)], v', rfl, by rw [HMX.out], by go_num, by omega, by omega, hh1, hh2, HLL.out, HF.out⟩, ?_⟩
              simp [intOf]; omega
    · by_cases g1 : k < len0
      · have g2 : ¬ (k : Int) < 300 := by omega
        have g3 : decide ((k : Int) < 300) = false := by simp; omega
        have x0 := HI.out.win.cell 0
        have hq : (h == h) = true := beq_self_eq_true h
        clear hgo
        go_wp2_with fail
        go_ret
        exact ⟨rfl, HI.out.bel⟩
      · have x0 := HI.out.win.cell 0
        have hq : (h == h) = true := beq_self_eq_true h
        clear hgo
        go_wp2_with fail
        go_ret
        exact ⟨rfl, HI.out.bel⟩

end Go.Proofs.Yteibdogejiajnaa.win
