/- Meters: under which key a token was sold. -/
import Derived.Test.YtmpapnblpjnlmaaDoorMtR
import Derived.Test.YtmpapnblpjnlmaaDoorOrS
namespace Go.Proofs.YtmpapnblpjnlmaaDoor.met
open Go.RowKit Go.Proofs.YtmpapnblpjnlmaaDoor.ora
set_option maxRecDepth 100000
set_option linter.unusedVariables false

/-- Under which key. -/
def SellPost (w : World) (l : List Pr) (me rev bo t : Int) (e : Ending) (w' : World) : Prop :=
  Below w.heap.size w w' ∧ ∃ r : Int, e = .returned (.int .i64 r) ∧ ((r = 0 ∧ Here l me rev bo t) ∨ (r = 1 ∧ ¬ Here l me rev bo t ∧ Early l me rev bo t) ∨ (r = 2 ∧ ¬ Here l me rev bo t ∧ ¬ Early l me rev bo t))
/-- What was seen of the first k pairs. -/
structure Seen (l : List Pr) (me rev bo t : Int) (k : Nat) (out : Int) : Prop where
  no : ∀ i, i < k → ¬ ((l.getD i pr0).m = me ∧ (l.getD i pr0).b = bo ∧ (l.getD i pr0).t = t ∧ (l.getD i pr0).r = rev)
  out : (out = 1 ∧ ∃ i, i < k ∧ (l.getD i pr0).m = me ∧ (l.getD i pr0).b = bo ∧ (l.getD i pr0).t = t ∧ (l.getD i pr0).r < rev) ∨ (out = 2 ∧ ∀ i, i < k → ¬ ((l.getD i pr0).m = me ∧ (l.getD i pr0).b = bo ∧ (l.getD i pr0).t = t ∧ (l.getD i pr0).r < rev))
theorem Seen.zero (l : List Pr) (me rev bo t : Int) : Seen l me rev bo t 0 2 := ⟨fun i hi => absurd hi (Nat.not_lt_zero _), .inr ⟨rfl, fun i hi => absurd hi (Nat.not_lt_zero _)⟩⟩
theorem Seen.skip {l : List Pr} {me rev bo t : Int} {k : Nat} {out : Int} (h : Seen l me rev bo t k out) (hx : ¬ ((l.getD k pr0).m = me ∧ (l.getD k pr0).b = bo ∧ (l.getD k pr0).t = t ∧ (l.getD k pr0).r ≤ rev)) : Seen l me rev bo t (k + 1) out := by
  refine ⟨fun i hi => ?_, ?_⟩
  · by_cases e : i = k
    · subst e; rintro ⟨h1, h2, h3, h4⟩; exact hx ⟨h1, h2, h3, by omega⟩
    · exact h.no i (by omega)
  · rcases h.out with ⟨h1, i, hi, h2⟩ | ⟨h1, h2⟩
    · exact .inl ⟨h1, i, by omega, h2⟩
    · refine .inr ⟨h1, fun i hi => ?_⟩
      by_cases e : i = k
      · subst e; rintro ⟨a1, a2, a3, a4⟩; exact hx ⟨a1, a2, a3, by omega⟩
      · exact h2 i (by omega)
theorem Seen.early {l : List Pr} {me rev bo t : Int} {k : Nat} {out : Int} (h : Seen l me rev bo t k out) (h1 : (l.getD k pr0).m = me) (h2 : (l.getD k pr0).b = bo) (h3 : (l.getD k pr0).t = t) (h4 : (l.getD k pr0).r < rev) : Seen l me rev bo t (k + 1) 1 := by
  refine ⟨fun i hi => ?_, .inl ⟨rfl, k, Nat.lt_succ_self _, h1, h2, h3, h4⟩⟩
  by_cases e : i = k
  · subst e; rintro ⟨_, _, _, a4⟩; omega
  · exact h.no i (by omega)
theorem Seen.done {l : List Pr} {me rev bo t : Int} {out : Int} (h : Seen l me rev bo t l.length out) : (out = 0 ∧ Here l me rev bo t) ∨ (out = 1 ∧ ¬ Here l me rev bo t ∧ Early l me rev bo t) ∨ (out = 2 ∧ ¬ Here l me rev bo t ∧ ¬ Early l me rev bo t) := by
  have hn : ¬ Here l me rev bo t := fun ⟨j, hj, hx⟩ => h.no j hj hx
  rcases h.out with ⟨h1, i, hi, h2⟩ | ⟨h1, h2⟩
  · exact .inr (.inl ⟨h1, hn, i, hi, h2⟩)
  · exact .inr (.inr ⟨h1, hn, fun ⟨j, hj, hx⟩ => h2 j hj hx⟩)
/-- The boxes of a meter and of an oracle that came in. -/
structure Bm (w wr : World) (m : Mt) (a : Option Addr) (n cap : Nat) (l : List Pr) : Prop where
  met : Blk wr w.heap.size m.cells 26
  ora : Blk wr (w.heap.size + 1) #[.slice a n cap] 29
  row : RowP wr a n l
  bel : Below w.heap.size w wr
theorem Bm.next {w wr w' : World} {m : Mt} {a : Option Addr} {n cap : Nat} {l : List Pr} (h : Bm w wr m a n cap l) (hb : Below wr.heap.size wr w') : Bm w w' m a n cap l := ⟨h.met.next hb, h.ora.next hb, h.row.below hb, bel_step h.bel hb⟩
theorem Bm.alloc {w wr : World} {m : Mt} {a : Option Addr} {n cap : Nat} {l : List Pr} (h : Bm w wr m a n cap l) (o : Obj) : Bm w (wr.alloc o) m a n cap l := h.next ((Below.refl _ _).alloc (Nat.le_refl _) _)
theorem Bm.new {w : World} {m : Mt} {a : Option Addr} {n cap : Nat} {l : List Pr} (h : RowP w a n l) : Bm w ((w.alloc (.cells m.cells 26)).alloc (.cells #[.slice a n cap] 29)) m a n cap l := by
  have hb : Below w.heap.size w ((w.alloc (.cells m.cells 26)).alloc (.cells #[.slice a n cap] 29)) := ((Below.refl _ _).alloc (Nat.le_refl _) _).alloc (by simp) _
  exact ⟨(Blk.new w _ _).alloc _, Blk.new1 w _ _ _, h.below hb, hb⟩

set_option maxHeartbeats 2000000 in
theorem sellKey_any (m : Mt) (a : Option Addr) (n cap : Nat) (l : List Pr) (bo t : Int) (w : World) (hr : RowP w a n l) (hn : n ≤ 500) :
    Calls Tryd.prog 14 #[m.v, .agg #[.slice a n cap], .int .i64 bo, .int .i64 t] w fun e w' => SellPost w l m.me m.rev bo t e w' := by
  have HB0 : Hid (Bm w ((w.alloc (.cells m.cells 26)).alloc (.cells #[.slice a n cap] 29)) m a n cap l) := Bm.new hr
  have HL : Hid (l.length = n) := hr.1
  clear hr
  obtain ⟨me, rev, cr, h, b, bad, lock⟩ := m
  unfold Mt.v
  unfold Mt.cells at HB0 ⊢
  simp only [] at HB0 ⊢
  go_enter Tryd.func14, Tryd.ntmps14
  go_wp2_with fail
  generalize (w.alloc (.cells #[.int .i64 me, .int .i64 rev, .int .i64 cr, .int .i64 h, .int .u64 (b : Int), .int .i64 bad, .int .i64 lock] 26)).alloc (.cells #[.slice a n cap] 29) = W0 at *
  go_loopw [9, 10] (fun v j wr => ∃ (k : Nat) (out : Int), v = .int .i64 out ∧ j = .int .i64 (k : Int) ∧ k ≤ n ∧ Hid (Seen l me rev bo t k out) ∧ Bm w wr ⟨me, rev, cr, h, b, bad, lock⟩ a n cap l) (fun _ j _ => n - (intOf j).toNat)
  case atStart => exact ⟨0, 2, rfl, rfl, Nat.zero_le _, Seen.zero _ _ _ _ _, HB0.out⟩
  case round =>
    obtain ⟨k, out, rfl, rfl, hk, HS, hbm⟩ := hrel
    have HI : Hid (Bm w wr ⟨me, rev, cr, h, b, bad, lock⟩ a n cap l) := hbm
    clear hbm HB0
    have o0 := HI.out.ora.cell 0
    by_cases hlt : k < n
    · obtain ⟨bl, off, rfl, _, hc⟩ := HI.out.row.at (by omega)
      obtain ⟨f0, f1, f2, f3⟩ := hc k hlt
      have HSK : Hid (¬ ((l.getD k pr0).m = me ∧ (l.getD k pr0).b = bo ∧ (l.getD k pr0).t = t ∧ (l.getD k pr0).r ≤ rev) → Seen l me rev bo t (k + 1) out) := fun hx => HS.out.skip hx
      have HSE : Hid ((l.getD k pr0).m = me → (l.getD k pr0).b = bo → (l.getD k pr0).t = t → (l.getD k pr0).r < rev → Seen l me rev bo t (k + 1) 1) := fun h1 h2 h3 h4 => HS.out.early h1 h2 h3 h4
      have HSH : Hid ((l.getD k pr0).m = me → (l.getD k pr0).b = bo → (l.getD k pr0).t = t → (l.getD k pr0).r = rev → Here l me rev bo t) := fun h1 h2 h3 h4 => ⟨k, by rw [HL.out]; exact hlt, h1, h2, h3, h4⟩
      clear hc HS
      generalize (l.getD k pr0).m = pm at *
      generalize (l.getD k pr0).r = prr at *
      generalize (l.getD k pr0).b = pb at *
      generalize (l.getD k pr0).t = pt at *
      have hN := Blk.new wr #[.int .i64 pm, .int .i64 prr, .int .i64 pb, .int .i64 pt] 49
      have n0 := hN.cell 0
      have n1 := hN.cell 1
      have n2 := hN.cell 2
      have n3 := hN.cell 3
      have HI2 : Hid (Bm w (wr.alloc (.cells #[.int .i64 pm, .int .i64 prr, .int .i64 pb, .int .i64 pt] 49)) ⟨me, rev, cr, h, b, bad, lock⟩ (some ⟨bl, off, none⟩) n cap l) := HI.out.alloc _
      have m0 : (wr.alloc (.cells #[.int .i64 pm, .int .i64 prr, .int .i64 pb, .int .i64 pt] 49)).cell? ⟨w.heap.size, 0, none⟩ = some (.int .i64 me) := HI2.out.met.cell 0
      have m1 : (wr.alloc (.cells #[.int .i64 pm, .int .i64 prr, .int .i64 pb, .int .i64 pt] 49)).cell? ⟨w.heap.size, 1, none⟩ = some (.int .i64 rev) := HI2.out.met.cell 1
      clear hN HI
      by_cases e1 : pm = me
      · have q1 : (pm != me) = false := by simp [e1]
        by_cases e2 : pb = bo
        · have q2 : (pb != bo) = false := by simp [e2]
          by_cases e3 : pt = t
          · have q3 : (pt != t) = false := by simp [e3]
            by_cases e4 : rev < prr
            · have q4 : decide (rev < prr) = true := by simp [e4]
              have HF : Hid (Seen l me rev bo t (k + 1) out) := HSK.out fun h => by omega
              clear e1 e2 e3
              go_wp2_with fail
              go_roundw
              case rel => exact ⟨k + 1, out, rfl, by go_num, by omega, HF, HI2.out⟩
              case measure => simp [intOf]; omega
            · have q4 : decide (rev < prr) = false := by simp; omega
              by_cases e5 : prr = rev
              · have q5 : (prr == rev) = true := by simp [e5]
                have HF : Hid (Here l me rev bo t) := HSH.out e1 e2 e3 e5
                clear e1 e2 e3 e4 e5
                go_wp2_with fail
                go_ret
                exact ⟨HI2.out.bel, 0, rfl, .inl ⟨rfl, HF.out⟩⟩
              · have q5 : (prr == rev) = false := by simp [e5]
                have HF : Hid (Seen l me rev bo t (k + 1) 1) := HSE.out e1 e2 e3 (by omega)
                clear e1 e2 e3 e4 e5
                go_wp2_with fail
                go_roundw
                case rel => exact ⟨k + 1, 1, rfl, by go_num, by omega, HF, HI2.out⟩
                case measure => simp [intOf]; omega
          · have q3 : (pt != t) = true := by simp [e3]
            have HF : Hid (Seen l me rev bo t (k + 1) out) := HSK.out fun h => e3 h.2.2.1
            clear e1 e2 e3
            go_wp2_with fail
            go_roundw
            case rel => exact ⟨k + 1, out, rfl, by go_num, by omega, HF, HI2.out⟩
            case measure => simp [intOf]; omega
        · have q2 : (pb != bo) = true := by simp [e2]
          have HF : Hid (Seen l me rev bo t (k + 1) out) := HSK.out fun h => e2 h.2.1
          clear e1 e2
          go_wp2_with fail
          go_roundw
          case rel => exact ⟨k + 1, out, rfl, by go_num, by omega, HF, HI2.out⟩
          case measure => simp [intOf]; omega
      · have q1 : (pm != me) = true := by simp [e1]
        have HF : Hid (Seen l me rev bo t (k + 1) out) := HSK.out fun h => e1 h.1
        clear e1
        go_wp2_with fail
        go_roundw
        case rel => exact ⟨k + 1, out, rfl, by go_num, by omega, HF, HI2.out⟩
        case measure => simp [intOf]; omega
    · obtain rfl : n = k := by omega
      have HF : Hid (Seen l me rev bo t l.length out) := by show Seen _ _ _ _ _ _ _; rw [HL.out]; exact HS.out
      go_wp2_with fail
      go_ret
      exact ⟨HI.out.bel, out, rfl, HF.out.done⟩

end Go.Proofs.YtmpapnblpjnlmaaDoor.met
