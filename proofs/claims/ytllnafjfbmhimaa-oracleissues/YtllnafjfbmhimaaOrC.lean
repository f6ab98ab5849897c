/- Oracles: the document's copies. -/
import Derived.Test.YtllnafjfbmhimaaOrS
namespace Go.Proofs.Ytllnafjfbmhimaa.ora
open Go.RowKit
set_option maxRecDepth 100000
set_option linter.unusedVariables false

set_option maxHeartbeats 2000000 in
theorem copy_any (a : Option Addr) (n cap : Nat) (l : List Pr) (w : World) (hr : RowP w a n l) (hn : n ≤ 500) :
    Calls Try.prog 24 #[.agg #[.slice a n cap]] w fun e w' => GaveO w l e w' := by
  have HB0 : Hid (Bo w ((w.alloc (.cells #[.slice a n cap] 24)).alloc (.cells #[.slice none 0 0] 24)) a n cap l) := (Bo.new hr).alloc _
  have HZ0 : Hid (Blk ((w.alloc (.cells #[.slice a n cap] 24)).alloc (.cells #[.slice none 0 0] 24)) (w.heap.size + 1) #[.slice none 0 0] 24) := Blk.new1 w _ _ _
  have HL : Hid (l.length = n) := hr.1
  have HR0 : Hid (RowP w a n l) := hr
  clear hr
  go_enter Try.func24, Try.ntmps24
  go_wp2_with fail
  generalize (w.alloc (.cells #[.slice a n cap] 24)).alloc (.cells #[.slice none 0 0] 24) = W0 at *
  go_loopw [3, 4] (fun v j wr => ∃ (k : Nat) (V : Value), V = v ∧ k ≤ n ∧ j = .int .i64 (k : Int) ∧ Pw wr (w.heap.size + 2) V (l.take k) ∧ Bo w wr a n cap l ∧ Blk wr (w.heap.size + 1) #[.slice none 0 0] 24) (fun _ j _ => n - (intOf j).toNat)
  case atStart => exact ⟨0, _, rfl, Nat.zero_le _, rfl, Pw.zero _ _, HB0.out, HZ0.out⟩
  case round =>
    obtain ⟨k, V, hV, hk, rfl, hown, hbo, hz⟩ := hrel
    subst hV
    have HI : Hid (Bo w wr a n cap l ∧ Blk wr (w.heap.size + 1) #[.slice none 0 0] 24) := ⟨hbo, hz⟩
    have HO : Hid (Pw wr (w.heap.size + 2) V (l.take k)) := hown
    clear hbo hz hown HB0 HZ0
    have c0 := HI.out.1.box.cell 0
    by_cases hlt : k < n
    · obtain ⟨bl, off, rfl, lb, hc⟩ := HI.out.1.row.at (by omega)
      obtain ⟨f0, f1, f2, f3⟩ := hc k hlt
      have HD : Hid (l.take k ++ [⟨(l.getD k pr0).m, (l.getD k pr0).r, (l.getD k pr0).b, (l.getD k pr0).t⟩] = l.take (k + 1)) := take_nextP l k (by rw [HL.out]; exact hlt)
      have HLN : Hid ((l.take k).length ≤ 1000000) := by show _ ≤ _; rw [List.length_take]; omega
      clear hc lb
      generalize (l.getD k pr0).m = pm at *
      generalize (l.getD k pr0).r = prr at *
      generalize (l.getD k pr0).b = pb at *
      generalize (l.getD k pr0).t = pt at *
      have HG : Hid (PrAt (wr.alloc (.cells #[.int .i64 pm, .int .i64 prr, .int .i64 pb, .int .i64 pt] 43)) wr.heap.size 0 ⟨pm, prr, pb, pt⟩) := pr_cell wr _ _ _ _
      have HOA : Hid (Pw (wr.alloc (.cells #[.int .i64 pm, .int .i64 prr, .int .i64 pb, .int .i64 pt] 43)) (w.heap.size + 2) V (l.take k)) := HO.out.alloc _
      have HSZ : Hid (w.heap.size + 2 ≤ (wr.alloc (.cells #[.int .i64 pm, .int .i64 prr, .int .i64 pb, .int .i64 pt] 43)).heap.size) := palloc_le HI.out.2.lt _
      have HI2 : Hid (Bo w (wr.alloc (.cells #[.int .i64 pm, .int .i64 prr, .int .i64 pb, .int .i64 pt] 43)) (some ⟨bl, off, none⟩) n cap l ∧ Blk (wr.alloc (.cells #[.int .i64 pm, .int .i64 prr, .int .i64 pb, .int .i64 pt] 43)) (w.heap.size + 1) #[.slice none 0 0] 24) := ⟨HI.out.1.alloc _, HI.out.2.alloc _⟩
      go_wp2_with (first
        | (at_builtin; refine wp_pr rfl _ _ rfl (w.heap.size + 2) wr.heap.size _ (l.take k) ⟨pm, prr, pb, pt⟩ rfl rfl HOA.out HG.out HLN.out HSZ.out ?_)
        | go_in)
      intro v' w4 hL4 hg4
      have hb4 : Below w.heap.size w w4 := pown_bel HOA.out hg4 HI2.out.1.bel (by omega) (by have := HSZ.out; omega)
      have HL4 : Hid (Pw w4 (w.heap.size + 2) v' (l.take (k + 1))) := by have := HD.out; rw [this] at hL4; exact hL4
      have HI4 : Hid (Bo w w4 (some ⟨bl, off, none⟩) n cap l ∧ Blk w4 (w.heap.size + 1) #[.slice none 0 0] 24) := ⟨⟨Blk.pgrown HI2.out.1.box hg4 (pown_far HOA.out (by omega)), HR0.out.below hb4, hb4⟩, Blk.pgrown HI2.out.2 hg4 (pown_far HOA.out (by omega))⟩
      clear hL4 hg4 hb4 HOA HG HSZ HI2 HI HO HD f0 f1 f2 f3 c0
      go_wp2_with fail
      go_roundw
      case rel => exact ⟨k + 1, _, rfl, by omega, by go_num, HL4.out, HI4.out.1, HI4.out.2⟩
      case measure => simp [intOf]; omega
    · obtain rfl : n = k := by omega
      have HO2 : Hid (Pw wr (w.heap.size + 2) V l) := by have := HO.out; rw [List.take_of_length_le (by rw [HL.out]; exact Nat.le_refl _)] at this; exact this
      have z0 := HI.out.2.cell 0
      have y0 := HI.out.2.free 0
      have HXX := HI.out.2.set 0 V
      have R0 : Hid (_ = _) := HXX.cell 0
      have HF : Hid (Pw (wr.setCell ⟨w.heap.size + 1, 0, none⟩ V) w.heap.size V l ∧ Below w.heap.size w (wr.setCell ⟨w.heap.size + 1, 0, none⟩ V)) := ⟨(HO2.out.put _ _ _ (by omega)).low (by omega), bel_set HI.out.1.bel _ _ _ (by omega)⟩
      obtain ⟨av, cv, hV, _, _, _⟩ := HO2.out.row
      clear HXX HI HO HO2
      subst hV
      go_wp2_with fail
      exact bodyPost_ret (v := .agg #[.slice av l.length cv]) (by simp [results, Try.results24, R0.out, go_sem]) rfl ⟨_, rfl, HF.out.1, HF.out.2⟩

end Go.Proofs.Ytllnafjfbmhimaa.ora
