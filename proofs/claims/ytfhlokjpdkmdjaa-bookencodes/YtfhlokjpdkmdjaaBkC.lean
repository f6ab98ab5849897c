/- An event as words, as the document has it. -/
import Derived.Test.YtfhlokjpdkmdjaaBkM
import Derived.Test.YtfhlokjpdkmdjaaWRow
import Derived.OwnWalk
namespace Go.Proofs.Ytfhlokjpdkmdjaa.book
open Go.RowKit
set_option maxRecDepth 100000
set_option linter.unusedVariables false
set_option linter.unusedSimpArgs false

theorem ws_low {w : World} {base base' : Nat} {v : Value} {l : List Int} (h : cell.Ws w base v l) (hb : base' ≤ base) : cell.Ws w base' v l := by
  refine ⟨h.1, ?_⟩
  rcases h.2 with hn | ⟨g, cap, cur, hv, hg, rest⟩
  · exact .inl hn
  · exact .inr ⟨g, cap, cur, hv, Nat.le_trans hb hg, rest⟩
/-- What Encode gives back. -/
def EncPost (w : World) (v : Ev) (e : Ending) (w' : World) : Prop := ∃ V ws f, e = .returned (.tuple #[V, .int .i64 f]) ∧ EncIs v ws f ∧ cell.Ws w' w.heap.size V ws ∧ Below w.heap.size w w'
theorem evL_step (v : Ev) (k : Nat) (hk : k < 13) : (evL v).take k ++ [(evL v).getD k 0] = (evL v).take (k + 1) := by
  have hl : k < (evL v).length := by rw [evL_len]; exact hk
  rw [List.take_succ_eq_append_getElem hl]
  simp [List.getD, List.getElem?_eq_getElem hl]
set_option maxHeartbeats 4000000 in
theorem rencoded (v : Ev) (w : World) : Calls Try.prog 10 #[v.v] w fun e w' => EncPost w v e w' := by
  have HMY : Hid (∀ W, Calls Try.prog 29 #[.agg #[.int .i64 v.kd, .int .i64 v.me, .int .i64 v.mo, .int .i64 v.id, .int .i64 v.te, .int .i64 v.de, .int .i64 v.fe, .int .i64 v.pr, .int .i64 v.ch, .int .i64 v.un, .int .i64 v.tg, .int .i64 v.ow, .int .i64 v.bp]] W fun e w' => MayPost W v e w') := fun W => rmay v W
  have HX0 : Hid (Blk (w.alloc (.cells #[.int .i64 v.kd, .int .i64 v.me, .int .i64 v.mo, .int .i64 v.id, .int .i64 v.te, .int .i64 v.de, .int .i64 v.fe, .int .i64 v.pr, .int .i64 v.ch, .int .i64 v.un, .int .i64 v.tg, .int .i64 v.ow, .int .i64 v.bp] 27)) w.heap.size #[.int .i64 v.kd, .int .i64 v.me, .int .i64 v.mo, .int .i64 v.id, .int .i64 v.te, .int .i64 v.de, .int .i64 v.fe, .int .i64 v.pr, .int .i64 v.ch, .int .i64 v.un, .int .i64 v.tg, .int .i64 v.ow, .int .i64 v.bp] 27) := Blk.new w _ _
  have HB0 : Hid (Below w.heap.size w (w.alloc (.cells #[.int .i64 v.kd, .int .i64 v.me, .int .i64 v.mo, .int .i64 v.id, .int .i64 v.te, .int .i64 v.de, .int .i64 v.fe, .int .i64 v.pr, .int .i64 v.ch, .int .i64 v.un, .int .i64 v.tg, .int .i64 v.ow, .int .i64 v.bp] 27))) := (Below.refl _ _).alloc (Nat.le_refl _) _
  have kkd : (w.alloc (.cells #[.int .i64 v.kd, .int .i64 v.me, .int .i64 v.mo, .int .i64 v.id, .int .i64 v.te, .int .i64 v.de, .int .i64 v.fe, .int .i64 v.pr, .int .i64 v.ch, .int .i64 v.un, .int .i64 v.tg, .int .i64 v.ow, .int .i64 v.bp] 27)).cell? ⟨w.heap.size, 0, none⟩ = some (.int .i64 v.kd) := (Blk.new w _ _).cell 0
  have kme : (w.alloc (.cells #[.int .i64 v.kd, .int .i64 v.me, .int .i64 v.mo, .int .i64 v.id, .int .i64 v.te, .int .i64 v.de, .int .i64 v.fe, .int .i64 v.pr, .int .i64 v.ch, .int .i64 v.un, .int .i64 v.tg, .int .i64 v.ow, .int .i64 v.bp] 27)).cell? ⟨w.heap.size, 1, none⟩ = some (.int .i64 v.me) := (Blk.new w _ _).cell 1
  have kmo : (w.alloc (.cells #[.int .i64 v.kd, .int .i64 v.me, .int .i64 v.mo, .int .i64 v.id, .int .i64 v.te, .int .i64 v.de, .int .i64 v.fe, .int .i64 v.pr, .int .i64 v.ch, .int .i64 v.un, .int .i64 v.tg, .int .i64 v.ow, .int .i64 v.bp] 27)).cell? ⟨w.heap.size, 2, none⟩ = some (.int .i64 v.mo) := (Blk.new w _ _).cell 2
  have kid : (w.alloc (.cells #[.int .i64 v.kd, .int .i64 v.me, .int .i64 v.mo, .int .i64 v.id, .int .i64 v.te, .int .i64 v.de, .int .i64 v.fe, .int .i64 v.pr, .int .i64 v.ch, .int .i64 v.un, .int .i64 v.tg, .int .i64 v.ow, .int .i64 v.bp] 27)).cell? ⟨w.heap.size, 3, none⟩ = some (.int .i64 v.id) := (Blk.new w _ _).cell 3
  have kte : (w.alloc (.cells #[.int .i64 v.kd, .int .i64 v.me, .int .i64 v.mo, .int .i64 v.id, .int .i64 v.te, .int .i64 v.de, .int .i64 v.fe, .int .i64 v.pr, .int .i64 v.ch, .int .i64 v.un, .int .i64 v.tg, .int .i64 v.ow, .int .i64 v.bp] 27)).cell? ⟨w.heap.size, 4, none⟩ = some (.int .i64 v.te) := (Blk.new w _ _).cell 4
  have kde : (w.alloc (.cells #[.int .i64 v.kd, .int .i64 v.me, .int .i64 v.mo, .int .i64 v.id, .int .i64 v.te, .int .i64 v.de, .int .i64 v.fe, .int .i64 v.pr, .int .i64 v.ch, .int .i64 v.un, .int .i64 v.tg, .int .i64 v.ow, .int .i64 v.bp] 27)).cell? ⟨w.heap.size, 5, none⟩ = some (.int .i64 v.de) := (Blk.new w _ _).cell 5
  have kfe : (w.alloc (.cells #[.int .i64 v.kd, .int .i64 v.me, .int .i64 v.mo, .int .i64 v.id, .int .i64 v.te, .int .i64 v.de, .int .i64 v.fe, .int .i64 v.pr, .int .i64 v.ch, .int .i64 v.un, .int .i64 v.tg, .int .i64 v.ow, .int .i64 v.bp] 27)).cell? ⟨w.heap.size, 6, none⟩ = some (.int .i64 v.fe) := (Blk.new w _ _).cell 6
  have kpr : (w.alloc (.cells #[.int .i64 v.kd, .int .i64 v.me, .int .i64 v.mo, .int .i64 v.id, .int .i64 v.te, .int .i64 v.de, .int .i64 v.fe, .int .i64 v.pr, .int .i64 v.ch, .int .i64 v.un, .int .i64 v.tg, .int .i64 v.ow, .int .i64 v.bp] 27)).cell? ⟨w.heap.size, 7, none⟩ = some (.int .i64 v.pr) := (Blk.new w _ _).cell 7
  have kch : (w.alloc (.cells #[.int .i64 v.kd, .int .i64 v.me, .int .i64 v.mo, .int .i64 v.id, .int .i64 v.te, .int .i64 v.de, .int .i64 v.fe, .int .i64 v.pr, .int .i64 v.ch, .int .i64 v.un, .int .i64 v.tg, .int .i64 v.ow, .int .i64 v.bp] 27)).cell? ⟨w.heap.size, 8, none⟩ = some (.int .i64 v.ch) := (Blk.new w _ _).cell 8
  have kun : (w.alloc (.cells #[.int .i64 v.kd, .int .i64 v.me, .int .i64 v.mo, .int .i64 v.id, .int .i64 v.te, .int .i64 v.de, .int .i64 v.fe, .int .i64 v.pr, .int .i64 v.ch, .int .i64 v.un, .int .i64 v.tg, .int .i64 v.ow, .int .i64 v.bp] 27)).cell? ⟨w.heap.size, 9, none⟩ = some (.int .i64 v.un) := (Blk.new w _ _).cell 9
  have ktg : (w.alloc (.cells #[.int .i64 v.kd, .int .i64 v.me, .int .i64 v.mo, .int .i64 v.id, .int .i64 v.te, .int .i64 v.de, .int .i64 v.fe, .int .i64 v.pr, .int .i64 v.ch, .int .i64 v.un, .int .i64 v.tg, .int .i64 v.ow, .int .i64 v.bp] 27)).cell? ⟨w.heap.size, 10, none⟩ = some (.int .i64 v.tg) := (Blk.new w _ _).cell 10
  have kow : (w.alloc (.cells #[.int .i64 v.kd, .int .i64 v.me, .int .i64 v.mo, .int .i64 v.id, .int .i64 v.te, .int .i64 v.de, .int .i64 v.fe, .int .i64 v.pr, .int .i64 v.ch, .int .i64 v.un, .int .i64 v.tg, .int .i64 v.ow, .int .i64 v.bp] 27)).cell? ⟨w.heap.size, 11, none⟩ = some (.int .i64 v.ow) := (Blk.new w _ _).cell 11
  have kbp : (w.alloc (.cells #[.int .i64 v.kd, .int .i64 v.me, .int .i64 v.mo, .int .i64 v.id, .int .i64 v.te, .int .i64 v.de, .int .i64 v.fe, .int .i64 v.pr, .int .i64 v.ch, .int .i64 v.un, .int .i64 v.tg, .int .i64 v.ow, .int .i64 v.bp] 27)).cell? ⟨w.heap.size, 12, none⟩ = some (.int .i64 v.bp) := (Blk.new w _ _).cell 12
  unfold Ev.v
  go_enter Try.func10, Try.ntmps10
  go_wp2_with fail
  refine (HMY.out _).mono ?_
  rintro e w1 ⟨B, rfl, hB, hb1⟩
  have HV1 : Hid (Blk w1 w.heap.size #[.int .i64 v.kd, .int .i64 v.me, .int .i64 v.mo, .int .i64 v.id, .int .i64 v.te, .int .i64 v.de, .int .i64 v.fe, .int .i64 v.pr, .int .i64 v.ch, .int .i64 v.un, .int .i64 v.tg, .int .i64 v.ow, .int .i64 v.bp] 27) := HX0.out.next hb1
  have HB1 : Hid (Below w.heap.size w w1) := HB0.out.trans (hb1.mono HB0.out.size)
  clear hb1 HX0 HB0 HMY kkd kme kmo kid kte kde kfe kpr kch kun ktg kow kbp
  cases B with
  | false =>
    have HE : Hid (EncIs v [] 5) := .inr ⟨fun h => absurd (hB.2 h) (by decide), rfl, rfl⟩
    clear hB
    go_wp2_with fail
    go_ret2
    exact ⟨_, [], 5, rfl, HE.out, cell.Ws.zero _ _, HB1.out⟩
  | true =>
    have hm : EMay v := hB.1 rfl
    have HM : Hid (EMay v) := hm
    have HWD : Hid (∀ x ∈ evL v, 0 ≤ x ∧ x < 4294967296) := may_word hm
    clear hB hm
    have ckd : w1.cell? ⟨w.heap.size, 0, none⟩ = some (.int .i64 v.kd) := HV1.out.cell 0
    have cme : w1.cell? ⟨w.heap.size, 1, none⟩ = some (.int .i64 v.me) := HV1.out.cell 1
    have cmo : w1.cell? ⟨w.heap.size, 2, none⟩ = some (.int .i64 v.mo) := HV1.out.cell 2
    have cid : w1.cell? ⟨w.heap.size, 3, none⟩ = some (.int .i64 v.id) := HV1.out.cell 3
    have cte : w1.cell? ⟨w.heap.size, 4, none⟩ = some (.int .i64 v.te) := HV1.out.cell 4
    have cde : w1.cell? ⟨w.heap.size, 5, none⟩ = some (.int .i64 v.de) := HV1.out.cell 5
    have cfe : w1.cell? ⟨w.heap.size, 6, none⟩ = some (.int .i64 v.fe) := HV1.out.cell 6
    have cpr : w1.cell? ⟨w.heap.size, 7, none⟩ = some (.int .i64 v.pr) := HV1.out.cell 7
    have cch : w1.cell? ⟨w.heap.size, 8, none⟩ = some (.int .i64 v.ch) := HV1.out.cell 8
    have cun : w1.cell? ⟨w.heap.size, 9, none⟩ = some (.int .i64 v.un) := HV1.out.cell 9
    have ctg : w1.cell? ⟨w.heap.size, 10, none⟩ = some (.int .i64 v.tg) := HV1.out.cell 10
    have cow : w1.cell? ⟨w.heap.size, 11, none⟩ = some (.int .i64 v.ow) := HV1.out.cell 11
    have cbp : w1.cell? ⟨w.heap.size, 12, none⟩ = some (.int .i64 v.bp) := HV1.out.cell 12
    have HV2 : Hid (Blk (w1.alloc (.cells #[.int .i64 v.id, .int .i64 v.te, .int .i64 v.de, .int .i64 v.fe, .int .i64 v.pr, .int .i64 v.ch, .int .i64 v.un] 23)) w.heap.size #[.int .i64 v.kd, .int .i64 v.me, .int .i64 v.mo, .int .i64 v.id, .int .i64 v.te, .int .i64 v.de, .int .i64 v.fe, .int .i64 v.pr, .int .i64 v.ch, .int .i64 v.un, .int .i64 v.tg, .int .i64 v.ow, .int .i64 v.bp] 27) := HV1.out.alloc _
    have HBB : Hid (Blk (w1.alloc (.cells #[.int .i64 v.id, .int .i64 v.te, .int .i64 v.de, .int .i64 v.fe, .int .i64 v.pr, .int .i64 v.ch, .int .i64 v.un] 23)) w1.heap.size #[.int .i64 v.id, .int .i64 v.te, .int .i64 v.de, .int .i64 v.fe, .int .i64 v.pr, .int .i64 v.ch, .int .i64 v.un] 23) := Blk.new w1 _ _
    have HB2 : Hid (Below w.heap.size w (w1.alloc (.cells #[.int .i64 v.id, .int .i64 v.te, .int .i64 v.de, .int .i64 v.fe, .int .i64 v.pr, .int .i64 v.ch, .int .i64 v.un] 23))) := HB1.out.alloc HB1.out.size _
    go_upto_region 4 with fail
    generalize (w1.alloc (.cells #[.int .i64 v.id, .int .i64 v.te, .int .i64 v.de, .int .i64 v.fe, .int .i64 v.pr, .int .i64 v.ch, .int .i64 v.un] 23)) = W2 at *
    generalize w1.heap.size = gb at *
    clear HV1 HB1 ckd cme cmo cid cte cde cfe cpr cch cun ctg cow cbp
    have ckd : W2.cell? ⟨w.heap.size, 0, none⟩ = some (.int .i64 v.kd) := HV2.out.cell 0
    have cme : W2.cell? ⟨w.heap.size, 1, none⟩ = some (.int .i64 v.me) := HV2.out.cell 1
    have cmo : W2.cell? ⟨w.heap.size, 2, none⟩ = some (.int .i64 v.mo) := HV2.out.cell 2
    have ctg : W2.cell? ⟨w.heap.size, 10, none⟩ = some (.int .i64 v.tg) := HV2.out.cell 10
    have cow : W2.cell? ⟨w.heap.size, 11, none⟩ = some (.int .i64 v.ow) := HV2.out.cell 11
    have cbp : W2.cell? ⟨w.heap.size, 12, none⟩ = some (.int .i64 v.bp) := HV2.out.cell 12
    have bid : W2.cell? ⟨gb, 0, none⟩ = some (.int .i64 v.id) := HBB.out.cell 0
    have bte : W2.cell? ⟨gb, 1, none⟩ = some (.int .i64 v.te) := HBB.out.cell 1
    have bde : W2.cell? ⟨gb, 2, none⟩ = some (.int .i64 v.de) := HBB.out.cell 2
    have bfe : W2.cell? ⟨gb, 3, none⟩ = some (.int .i64 v.fe) := HBB.out.cell 3
    have bpr : W2.cell? ⟨gb, 4, none⟩ = some (.int .i64 v.pr) := HBB.out.cell 4
    have bch : W2.cell? ⟨gb, 5, none⟩ = some (.int .i64 v.ch) := HBB.out.cell 5
    have bun : W2.cell? ⟨gb, 6, none⟩ = some (.int .i64 v.un) := HBB.out.cell 6
    have HL3 : Hid (Blk (W2.alloc (.cells #[.int .i64 v.kd, .int .i64 v.me, .int .i64 v.mo, .int .i64 v.id, .int .i64 v.te, .int .i64 v.de, .int .i64 v.fe, .int .i64 v.pr, .int .i64 v.ch, .int .i64 v.un, .int .i64 v.tg, .int .i64 v.ow, .int .i64 v.bp] 3)) W2.heap.size #[.int .i64 v.kd, .int .i64 v.me, .int .i64 v.mo, .int .i64 v.id, .int .i64 v.te, .int .i64 v.de, .int .i64 v.fe, .int .i64 v.pr, .int .i64 v.ch, .int .i64 v.un, .int .i64 v.tg, .int .i64 v.ow, .int .i64 v.bp] 3) := Blk.new W2 _ _
    have HB3 : Hid (Below w.heap.size w (W2.alloc (.cells #[.int .i64 v.kd, .int .i64 v.me, .int .i64 v.mo, .int .i64 v.id, .int .i64 v.te, .int .i64 v.de, .int .i64 v.fe, .int .i64 v.pr, .int .i64 v.ch, .int .i64 v.un, .int .i64 v.tg, .int .i64 v.ow, .int .i64 v.bp] 3))) := HB2.out.alloc HB2.out.size _
    go_upto_region 7 with fail
    generalize (W2.alloc (.cells #[.int .i64 v.kd, .int .i64 v.me, .int .i64 v.mo, .int .i64 v.id, .int .i64 v.te, .int .i64 v.de, .int .i64 v.fe, .int .i64 v.pr, .int .i64 v.ch, .int .i64 v.un, .int .i64 v.tg, .int .i64 v.ow, .int .i64 v.bp] 3)) = W3 at *
    generalize W2.heap.size = gl at *
    clear HV2 HBB HB2 ckd cme cmo ctg cow cbp bid bte bde bfe bpr bch bun
    have HGL : Hid (∀ k, k < 13 → (#[.int .i64 v.kd, .int .i64 v.me, .int .i64 v.mo, .int .i64 v.id, .int .i64 v.te, .int .i64 v.de, .int .i64 v.fe, .int .i64 v.pr, .int .i64 v.ch, .int .i64 v.un, .int .i64 v.tg, .int .i64 v.ow, .int .i64 v.bp] : Array Value)[k]? = some (.int .i64 ((evL v).getD k 0))) := fun k hk => by
      match k, hk with
      | 0, _ => rfl
      | 1, _ => rfl
      | 2, _ => rfl
      | 3, _ => rfl
      | 4, _ => rfl
      | 5, _ => rfl
      | 6, _ => rfl
      | 7, _ => rfl
      | 8, _ => rfl
      | 9, _ => rfl
      | 10, _ => rfl
      | 11, _ => rfl
      | 12, _ => rfl
    go_loopw [6, 7] (fun u i wr => ∃ (k : Nat) (V : Value), V = u ∧ k ≤ 13 ∧ i = .int .i64 (k : Int) ∧ cell.Ws wr W3.heap.size V ((evL v).take k) ∧ Below W3.heap.size W3 wr) (fun _ i _ => 13 - (intOf i).toNat)
    case atStart => exact ⟨0, _, rfl, Nat.zero_le _, rfl, cell.Ws.zero _ _, Below.refl _ _⟩
    case round =>
      obtain ⟨k, V, hV, hk, rfl, hown, hb⟩ := hrel
      subst hV
      have HO : Hid (cell.Ws wr W3.heap.size V ((evL v).take k)) := hown
      have HB : Hid (Below W3.heap.size W3 wr) := hb
      have HLT : Hid (gl < W3.heap.size) := HL3.out.lt
      by_cases hlt : k < 13
      · have hdl : decide ((k : Int) < 13) = true := by simp; omega
        have hcell : wr.cell? ⟨gl, k, none⟩ = some (.int .i64 ((evL v).getD k 0)) := ((HL3.out.next hb).cell k).trans (HGL.out k hlt)
        have HD : Hid ((evL v).take k ++ [(evL v).getD k 0] = (evL v).take (k + 1)) := evL_step v k hlt
        have hz := HWD.out ((evL v).getD k 0) (by
          have hl : k < (evL v).length := by rw [evL_len]; exact hlt
          rw [List.getD_eq_getElem?_getD, List.getElem?_eq_getElem hl]; exact List.getElem_mem hl)
        obtain ⟨hz0, hz1⟩ := hz
        have HLN : Hid (((evL v).take k).length ≤ 1000000) := by show _ ≤ _; rw [List.length_take, evL_len]; omega
        clear hown hb
        generalize (evL v).getD k 0 = z at *
        generalize (evL v).take k = fs at *
        have HG : Hid ((wr.alloc (.cells #[.int .u32 z] 67)).cell? ⟨wr.heap.size, 0, none⟩ = some (.int .u32 z)) := (Blk.new wr _ _).cell 0
        have HOA : Hid (cell.Ws (wr.alloc (.cells #[.int .u32 z] 67)) W3.heap.size V fs) := HO.out.alloc _
        have HSZ : Hid (W3.heap.size ≤ (wr.alloc (.cells #[.int .u32 z] 67)).heap.size) := cell.alloc_le HB.out.size _
        have hwz : IntKind.u32.wrap z = z := by rw [IntKind.wrap_u32]; omega
        go_wp2_with (first
          | (at_builtin; refine cell.wp_word rfl _ _ rfl W3.heap.size wr.heap.size _ fs z rfl rfl HOA.out HG.out HLN.out HSZ.out ?_)
          | fail)
        intro v' w4 hL4 hg4
        have HL4 : Hid (cell.Ws w4 W3.heap.size v' ((evL v).take (k + 1))) := by have := HD.out; rw [this] at hL4; exact hL4
        have HB4 : Hid (Below W3.heap.size W3 w4) := cell.own_bel HOA.out hg4 (HB.out.alloc HB.out.size _) (Nat.le_refl _) HSZ.out
        clear hL4 hg4 HOA HO HB HG HSZ HD
        go_wp2_with fail
        go_roundw
        case rel => exact ⟨k + 1, _, rfl, by omega, by go_num, HL4.out, HB4.out⟩
        case measure => simp [intOf]; omega
      · obtain rfl : k = 13 := by omega
        have HE : Hid (EncIs v (evL v) 0) := .inl ⟨HM.out, rfl, rfl⟩
        have HWS : Hid (cell.Ws wr W3.heap.size V (evL v)) := by have := HO.out; rw [List.take_of_length_le (by rw [evL_len]; exact Nat.le_refl _)] at this; exact this
        have HB9 : Hid (Below w.heap.size w wr) := HB3.out.trans (HB.out.mono HB3.out.size)
        have hdl : decide ((13 : Int) < 13) = false := by decide
        clear hown hb HO
        go_wp2_with fail
        go_ret2
        exact ⟨V, evL v, 0, rfl, HE.out, ws_low HWS.out HB3.out.size, HB9.out⟩

end Go.Proofs.Ytfhlokjpdkmdjaa.book
