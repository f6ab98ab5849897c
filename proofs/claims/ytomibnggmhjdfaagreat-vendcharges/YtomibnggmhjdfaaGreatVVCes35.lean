import Derived.Test.YtomibnggmhjdfaaGreatVVCes17
import Derived.Test.YtomibnggmhjdfaaGreatVVCes29
import Derived.Test.YtomibnggmhjdfaaGreatVVCes34
set_option linter.unusedVariables false
set_option linter.unusedSimpArgs false
namespace Go.Proofs.YtomibnggmhjdfaaGreat
namespace book
open Go.RowKit
set_option maxRecDepth 100000
theorem ws_low {w : World} {base base' : Nat} {v : Value} {l : List Int} (h : cell.Ws w base v l) (hb : base' ≤ base) : cell.Ws w base' v l := by
 refine ⟨h.1, ?_⟩
 rcases h.2 with hn | ⟨g, cap, cur, hv, hg, rest⟩
 ·exact .inl hn
 ·exact .inr ⟨g, cap, cur, hv, Nat.le_trans hb hg, rest⟩
def EncPost (w : World) (v : Ev) (e : Ending) (w' : World) : Prop := ∃ V ws f, e = .returned (.tuple #[V, .int .i64 f]) ∧ EncIs v ws f ∧ cell.Ws w' w.heap.size V ws ∧ Below w.heap.size w w'
theorem evL_step (v : Ev) (k : Nat) (hk : k < 13) : (evL v).take k ++ [(evL v).getD k 0] = (evL v).take (k + 1) := by
 have hl : k < (evL v).length := by rw [evL_len]; exact hk
 rw [List.take_succ_eq_append_getElem hl]
 simp [List.getD, List.getElem?_eq_getElem hl]
set_option maxHeartbeats 4000000 in
theorem rencoded (v : Ev) (w : World) : Calls Tryz.prog 42 #[v.v] w fun e w' => EncPost w v e w' := by
 have HMY : Hid (∀ W, Calls Tryz.prog 35 #[.agg #[.int .i64 v.kd, .int .i64 v.me, .int .i64 v.mo, .int .i64 v.id, .int .i64 v.te, .int .i64 v.de, .int .i64 v.fe, .int .i64 v.pr, .int .i64 v.ch, .int .i64 v.un, .int .i64 v.tg, .int .i64 v.ow, .int .i64 v.bp]] W fun e w' => MayPost W v e w') := fun W => rmay v W
 have HX0 : Hid (Blk (w.alloc (.cells #[.int .i64 v.kd, .int .i64 v.me, .int .i64 v.mo, .int .i64 v.id, .int .i64 v.te, .int .i64 v.de, .int .i64 v.fe, .int .i64 v.pr, .int .i64 v.ch, .int .i64 v.un, .int .i64 v.tg, .int .i64 v.ow, .int .i64 v.bp] 71)) w.heap.size #[.int .i64 v.kd, .int .i64 v.me, .int .i64 v.mo, .int .i64 v.id, .int .i64 v.te, .int .i64 v.de, .int .i64 v.fe, .int .i64 v.pr, .int .i64 v.ch, .int .i64 v.un, .int .i64 v.tg, .int .i64 v.ow, .int .i64 v.bp] 71) := Blk.new w _ _
 have HB0 : Hid (Below w.heap.size w (w.alloc (.cells #[.int .i64 v.kd, .int .i64 v.me, .int .i64 v.mo, .int .i64 v.id, .int .i64 v.te, .int .i64 v.de, .int .i64 v.fe, .int .i64 v.pr, .int .i64 v.ch, .int .i64 v.un, .int .i64 v.tg, .int .i64 v.ow, .int .i64 v.bp] 71))) := (Below.refl _ _).alloc (Nat.le_refl _) _
 have kkd : (w.alloc (.cells #[.int .i64 v.kd, .int .i64 v.me, .int .i64 v.mo, .int .i64 v.id, .int .i64 v.te, .int .i64 v.de, .int .i64 v.fe, .int .i64 v.pr, .int .i64 v.ch, .int .i64 v.un, .int .i64 v.tg, .int .i64 v.ow, .int .i64 v.bp] 71)).cell? ⟨w.heap.size, 0, none⟩ = some (.int .i64 v.kd) := (Blk.new w _ _).cell 0
 have kme : (w.alloc (.cells #[.int .i64 v.kd, .int .i64 v.me, .int .i64 v.mo, .int .i64 v.id, .int .i64 v.te, .int .i64 v.de, .int .i64 v.fe, .int .i64 v.pr, .int .i64 v.ch, .int .i64 v.un, .int .i64 v.tg, .int .i64 v.ow, .int .i64 v.bp] 71)).cell? ⟨w.heap.size, 1, none⟩ = some (.int .i64 v.me) := (Blk.new w _ _).cell 1
 have kmo : (w.alloc (.cells #[.int .i64 v.kd, .int .i64 v.me, .int .i64 v.mo, .int .i64 v.id, .int .i64 v.te, .int .i64 v.de, .int .i64 v.fe, .int .i64 v.pr, .int .i64 v.ch, .int .i64 v.un, .int .i64 v.tg, .int .i64 v.ow, .int .i64 v.bp] 71)).cell? ⟨w.heap.size, 2, none⟩ = some (.int .i64 v.mo) := (Blk.new w _ _).cell 2
 have kid : (w.alloc (.cells #[.int .i64 v.kd, .int .i64 v.me, .int .i64 v.mo, .int .i64 v.id, .int .i64 v.te, .int .i64 v.de, .int .i64 v.fe, .int .i64 v.pr, .int .i64 v.ch, .int .i64 v.un, .int .i64 v.tg, .int .i64 v.ow, .int .i64 v.bp] 71)).cell? ⟨w.heap.size, 3, none⟩ = some (.int .i64 v.id) := (Blk.new w _ _).cell 3
 have kte : (w.alloc (.cells #[.int .i64 v.kd, .int .i64 v.me, .int .i64 v.mo, .int .i64 v.id, .int .i64 v.te, .int .i64 v.de, .int .i64 v.fe, .int .i64 v.pr, .int .i64 v.ch, .int .i64 v.un, .int .i64 v.tg, .int .i64 v.ow, .int .i64 v.bp] 71)).cell? ⟨w.heap.size, 4, none⟩ = some (.int .i64 v.te) := (Blk.new w _ _).cell 4
 have kde : (w.alloc (.cells #[.int .i64 v.kd, .int .i64 v.me, .int .i64 v.mo, .int .i64 v.id, .int .i64 v.te, .int .i64 v.de, .int .i64 v.fe, .int .i64 v.pr, .int .i64 v.ch, .int .i64 v.un, .int .i64 v.tg, .int .i64 v.ow, .int .i64 v.bp] 71)).cell? ⟨w.heap.size, 5, none⟩ = some (.int .i64 v.de) := (Blk.new w _ _).cell 5
 have kfe : (w.alloc (.cells #[.int .i64 v.kd, .int .i64 v.me, .int .i64 v.mo, .int .i64 v.id, .int .i64 v.te, .int .i64 v.de, .int .i64 v.fe, .int .i64 v.pr, .int .i64 v.ch, .int .i64 v.un, .int .i64 v.tg, .int .i64 v.ow, .int .i64 v.bp] 71)).cell? ⟨w.heap.size, 6, none⟩ = some (.int .i64 v.fe) := (Blk.new w _ _).cell 6
 have kpr : (w.alloc (.cells #[.int .i64 v.kd, .int .i64 v.me, .int .i64 v.mo, .int .i64 v.id, .int .i64 v.te, .int .i64 v.de, .int .i64 v.fe, .int .i64 v.pr, .int .i64 v.ch, .int .i64 v.un, .int .i64 v.tg, .int .i64 v.ow, .int .i64 v.bp] 71)).cell? ⟨w.heap.size, 7, none⟩ = some (.int .i64 v.pr) := (Blk.new w _ _).cell 7
 have kch : (w.alloc (.cells #[.int .i64 v.kd, .int .i64 v.me, .int .i64 v.mo, .int .i64 v.id, .int .i64 v.te, .int .i64 v.de, .int .i64 v.fe, .int .i64 v.pr, .int .i64 v.ch, .int .i64 v.un, .int .i64 v.tg, .int .i64 v.ow, .int .i64 v.bp] 71)).cell? ⟨w.heap.size, 8, none⟩ = some (.int .i64 v.ch) := (Blk.new w _ _).cell 8
 have kun : (w.alloc (.cells #[.int .i64 v.kd, .int .i64 v.me, .int .i64 v.mo, .int .i64 v.id, .int .i64 v.te, .int .i64 v.de, .int .i64 v.fe, .int .i64 v.pr, .int .i64 v.ch, .int .i64 v.un, .int .i64 v.tg, .int .i64 v.ow, .int .i64 v.bp] 71)).cell? ⟨w.heap.size, 9, none⟩ = some (.int .i64 v.un) := (Blk.new w _ _).cell 9
 have ktg : (w.alloc (.cells #[.int .i64 v.kd, .int .i64 v.me, .int .i64 v.mo, .int .i64 v.id, .int .i64 v.te, .int .i64 v.de, .int .i64 v.fe, .int .i64 v.pr, .int .i64 v.ch, .int .i64 v.un, .int .i64 v.tg, .int .i64 v.ow, .int .i64 v.bp] 71)).cell? ⟨w.heap.size, 10, none⟩ = some (.int .i64 v.tg) := (Blk.new w _ _).cell 10
 have kow : (w.alloc (.cells #[.int .i64 v.kd, .int .i64 v.me, .int .i64 v.mo, .int .i64 v.id, .int .i64 v.te, .int .i64 v.de, .int .i64 v.fe, .int .i64 v.pr, .int .i64 v.ch, .int .i64 v.un, .int .i64 v.tg, .int .i64 v.ow, .int .i64 v.bp] 71)).cell? ⟨w.heap.size, 11, none⟩ = some (.int .i64 v.ow) := (Blk.new w _ _).cell 11
 have kbp : (w.alloc (.cells #[.int .i64 v.kd, .int .i64 v.me, .int .i64 v.mo, .int .i64 v.id, .int .i64 v.te, .int .i64 v.de, .int .i64 v.fe, .int .i64 v.pr, .int .i64 v.ch, .int .i64 v.un, .int .i64 v.tg, .int .i64 v.ow, .int .i64 v.bp] 71)).cell? ⟨w.heap.size, 12, none⟩ = some (.int .i64 v.bp) := (Blk.new w _ _).cell 12
 unfold Ev.v
 go_enter Tryz.func42, Tryz.ntmps42
 go_wp2_with fail
 refine (HMY.out _).mono ?_
 rintro e w1 ⟨B, rfl, hB, hb1⟩
 have HV1 := shN HX0 hb1
 have HB1 := shB HB0 hb1
 clear hb1 HX0 HB0 HMY kkd kme kmo kid kte kde kfe kpr kch kun ktg kow kbp
 cases B with
 | false =>
  have HE : Hid (EncIs v [] 5) := .inr ⟨fun h => absurd (hB.2 h) (by decide), rfl, rfl⟩
  clear hB
  go_wp2_with fail
  go_ret2
  exact ⟨_, [], 5, rfl, HE.out, cell.Ws.zero _ _, HB1.out⟩
 | true =>
  have hm : EMay v := hB.1 rfl
  have HM : Hid (EMay v) := hm
  have HWD : Hid (∀ x ∈ evL v, 0 ≤ x ∧ x < 4294967296) := may_word hm
  clear hB hm
  have ckd : w1.cell? ⟨w.heap.size, 0, none⟩ = some (.int .i64 v.kd) := HV1.out.cell 0
  have cme : w1.cell? ⟨w.heap.size, 1, none⟩ = some (.int .i64 v.me) := HV1.out.cell 1
  have cmo : w1.cell? ⟨w.heap.size, 2, none⟩ = some (.int .i64 v.mo) := HV1.out.cell 2
  have cid : w1.cell? ⟨w.heap.size, 3, none⟩ = some (.int .i64 v.id) := HV1.out.cell 3
  have cte : w1.cell? ⟨w.heap.size, 4, none⟩ = some (.int .i64 v.te) := HV1.out.cell 4
  have cde : w1.cell? ⟨w.heap.size, 5, none⟩ = some (.int .i64 v.de) := HV1.out.cell 5
  have cfe : w1.cell? ⟨w.heap.size, 6, none⟩ = some (.int .i64 v.fe) := HV1.out.cell 6
  have cpr : w1.cell? ⟨w.heap.size, 7, none⟩ = some (.int .i64 v.pr) := HV1.out.cell 7
  have cch : w1.cell? ⟨w.heap.size, 8, none⟩ = some (.int .i64 v.ch) := HV1.out.cell 8
  have cun : w1.cell? ⟨w.heap.size, 9, none⟩ = some (.int .i64 v.un) := HV1.out.cell 9
  have ctg : w1.cell? ⟨w.heap.size, 10, none⟩ = some (.int .i64 v.tg) := HV1.out.cell 10
  have cow : w1.cell? ⟨w.heap.size, 11, none⟩ = some (.int .i64 v.ow) := HV1.out.cell 11
  have cbp : w1.cell? ⟨w.heap.size, 12, none⟩ = some (.int .i64 v.bp) := HV1.out.cell 12
  obtain ⟨W2, HWW, HBB, HBB, -⟩ := sh1 w1 #[.int .i64 v.id, .int .i64 v.te, .int .i64 v.de, .int .i64 v.fe, .int .i64 v.pr, .int .i64 v.ch, .int .i64 v.un] 69
  have HV2 := shN HV1 HBB.out
  have HB2 := shB HB1 HBB.out
  go_upto_region 4 with fail
  rw [HWW.out]
  clear HWW HBB
  generalize w1.heap.size = gb at *
  clear HV1 HB1 ckd cme cmo cid cte cde cfe cpr cch cun ctg cow cbp
  have ckd : W2.cell? ⟨w.heap.size, 0, none⟩ = some (.int .i64 v.kd) := HV2.out.cell 0
  have cme : W2.cell? ⟨w.heap.size, 1, none⟩ = some (.int .i64 v.me) := HV2.out.cell 1
  have cmo : W2.cell? ⟨w.heap.size, 2, none⟩ = some (.int .i64 v.mo) := HV2.out.cell 2
  have ctg : W2.cell? ⟨w.heap.size, 10, none⟩ = some (.int .i64 v.tg) := HV2.out.cell 10
  have cow : W2.cell? ⟨w.heap.size, 11, none⟩ = some (.int .i64 v.ow) := HV2.out.cell 11
  have cbp : W2.cell? ⟨w.heap.size, 12, none⟩ = some (.int .i64 v.bp) := HV2.out.cell 12
  have bid : W2.cell? ⟨gb, 0, none⟩ = some (.int .i64 v.id) := HBB.out.cell 0
  have bte : W2.cell? ⟨gb, 1, none⟩ = some (.int .i64 v.te) := HBB.out.cell 1
  have bde : W2.cell? ⟨gb, 2, none⟩ = some (.int .i64 v.de) := HBB.out.cell 2
  have bfe : W2.cell? ⟨gb, 3, none⟩ = some (.int .i64 v.fe) := HBB.out.cell 3
  have bpr : W2.cell? ⟨gb, 4, none⟩ = some (.int .i64 v.pr) := HBB.out.cell 4
  have bch : W2.cell? ⟨gb, 5, none⟩ = some (.int .i64 v.ch) := HBB.out.cell 5
  have bun : W2.cell? ⟨gb, 6, none⟩ = some (.int .i64 v.un) := HBB.out.cell 6
  obtain ⟨W3, HWW, HL3, HBB, -⟩ := sh1 W2 #[.int .i64 v.kd, .int .i64 v.me, .int .i64 v.mo, .int .i64 v.id, .int .i64 v.te, .int .i64 v.de, .int .i64 v.fe, .int .i64 v.pr, .int .i64 v.ch, .int .i64 v.un, .int .i64 v.tg, .int .i64 v.ow, .int .i64 v.bp] 3
  have HB3 := shB HB2 HBB.out
  go_upto_region 7 with fail
  rw [HWW.out]
  clear HWW HBB
  generalize W2.heap.size = gl at *
  clear HV2 HBB HB2 ckd cme cmo ctg cow cbp bid bte bde bfe bpr bch bun
  have HGL : Hid (∀ k, k < 13 → (#[.int .i64 v.kd, .int .i64 v.me, .int .i64 v.mo, .int .i64 v.id, .int .i64 v.te, .int .i64 v.de, .int .i64 v.fe, .int .i64 v.pr, .int .i64 v.ch, .int .i64 v.un, .int .i64 v.tg, .int .i64 v.ow, .int .i64 v.bp] : Array Value)[k]? = some (.int .i64 ((evL v).getD k 0))) := fun k hk => by
   match k, hk with
   | 0, _ => rfl
   | 1, _ => rfl
   | 2, _ => rfl
   | 3, _ => rfl
   | 4, _ => rfl
   | 5, _ => rfl
   | 6, _ => rfl
   | 7, _ => rfl
   | 8, _ => rfl
   | 9, _ => rfl
   | 10, _ => rfl
   | 11, _ => rfl
   | 12, _ => rfl
  go_loopw [6, 7] (fun u i wr => ∃ (k : Nat) (V : Value), V = u ∧ k ≤ 13 ∧ i = .int .i64 (k : Int) ∧ cell.Ws wr W3.heap.size V ((evL v).take k) ∧ Below W3.heap.size W3 wr) (fun _ i _ => 13 - (intOf i).toNat)
  case atStart => exact ⟨0, _, rfl, Nat.zero_le _, rfl, cell.Ws.zero _ _, Below.refl _ _⟩
  case round =>
   obtain ⟨k, V, hV, hk, rfl, hown, hb⟩ := hrel
   subst hV
   have HO : Hid (cell.Ws wr W3.heap.size V ((evL v).take k)) := hown
   have HB : Hid (Below W3.heap.size W3 wr) := hb
   have HLT : Hid (gl < W3.heap.size) := HL3.out.lt
   by_cases hlt : k < 13
   ·have hdl : decide ((k : Int) < 13) = true := by simp; omega
    have hcell : wr.cell? ⟨gl, k, none⟩ = some (.int .i64 ((evL v).getD k 0)) := ((HL3.out.next hb).cell k).trans (HGL.out k hlt)
    have HD : Hid ((evL v).take k ++ [(evL v).getD k 0] = (evL v).take (k + 1)) := evL_step v k hlt
    have hz := HWD.out ((evL v).getD k 0) (by
     have hl : k < (evL v).length := by rw [evL_len]; exact hlt
     rw [List.getD_eq_getElem?_getD, List.getElem?_eq_getElem hl]; exact List.getElem_mem hl)
    obtain ⟨hz0, hz1⟩ := hz
    have HLN : Hid (((evL v).take k).length ≤ 1000000) := by show _ ≤ _; rw [List.length_take, evL_len]; omega
    clear hown hb
    generalize (evL v).getD k 0 = z at *
    generalize (evL v).take k = fs at *
    have HG : Hid ((wr.alloc (.cells #[.int .u32 z] 64)).cell? ⟨wr.heap.size, 0, none⟩ = some (.int .u32 z)) := (Blk.new wr _ _).cell 0
    have HOA : Hid (cell.Ws (wr.alloc (.cells #[.int .u32 z] 64)) W3.heap.size V fs) := HO.out.alloc _
    have HSZ : Hid (W3.heap.size ≤ (wr.alloc (.cells #[.int .u32 z] 64)).heap.size) := cell.alloc_le HB.out.size _
    have hwz : IntKind.u32.wrap z = z := by rw [IntKind.wrap_u32]; omega
    go_wp2_with (first
     | (at_builtin; refine cell.wp_word rfl _ _ rfl W3.heap.size wr.heap.size _ fs z rfl rfl HOA.out HG.out HLN.out HSZ.out ?_)
     | fail)
    intro v' w4 hL4 hg4
    have HL4 : Hid (cell.Ws w4 W3.heap.size v' ((evL v).take (k + 1))) := by have := HD.out; rw [this] at hL4; exact hL4
    have HB4 : Hid (Below W3.heap.size W3 w4) := cell.own_bel HOA.out hg4 (HB.out.alloc HB.out.size _) (Nat.le_refl _) HSZ.out
    clear hL4 hg4 HOA HO HB HG HSZ HD
    go_wp2_with fail
    go_roundw
    case rel => exact ⟨k + 1, _, rfl, by omega, by go_num, HL4.out, HB4.out⟩
    case measure => simp [intOf]; omega
   ·obtain rfl : k = 13 := by omega
    have HE : Hid (EncIs v (evL v) 0) := .inl ⟨HM.out, rfl, rfl⟩
    have HWS : Hid (cell.Ws wr W3.heap.size V (evL v)) := by have := HO.out; rw [List.take_of_length_le (by rw [evL_len]; exact Nat.le_refl _)] at this; exact this
    have HB9 : Hid (Below w.heap.size w wr) := HB3.out.trans (HB.out.mono HB3.out.size)
    have hdl : decide ((13 : Int) < 13) = false := by decide
    clear hown hb HO
    go_wp2_with fail
    go_ret2
    exact ⟨V, evL v, 0, rfl, HE.out, ws_low HWS.out HB3.out.size, HB9.out⟩
end book
namespace disk
open Go.RowKit cell
set_option maxRecDepth 100000
def EPost (J : Nat → World → Prop) (c : List Int) (e : Ending) (w' : World) : Prop :=
 ∃ x f k, e = .returned (.tuple #[.int .i64 x, .int .i64 f]) ∧ J k w' ∧ ((¬ May c ∧ x = 0 ∧ f = 1) ∨ (May c ∧ lenAt c (repD c).2 < 0 ∧ x = 0 ∧ f = 3) ∨ (May c ∧ lenAt c (repD c).2 = 0 ∧ repD c = itD c k ∧ x = ((repD c).2 : Int) ∧ f = 0))
theorem len_zero {c : List Int} {p : Nat} (h : c.getD p 0 = 0) : lenAt c p = 0 := by unfold lenAt; rw [if_pos (.inr h)]
theorem len_end {c : List Int} {p : Nat} (h : p = c.length) : lenAt c p = 0 := by unfold lenAt; rw [if_pos (.inl h)]
theorem len_bad {c : List Int} {p : Nat} (hp : p < c.length) (h0 : c.getD p 0 ≠ 0) (h : 64 < c.getD p 0 ∨ (c.length : Int) ≤ p + c.getD p 0) : lenAt c p < 0 := by
 unfold lenAt
 rw [if_neg (by omega)]
 by_cases h1 : 64 < c.getD p 0
 ·rw [if_pos h1]; decide
 ·rw [if_neg h1, if_pos (by omega)]; decide
theorem get_wd {c : List Int} (hw : ∀ x ∈ c, 0 ≤ x ∧ x < 4294967296) (p : Nat) : 0 ≤ c.getD p 0 ∧ c.getD p 0 < 4294967296 := by
 by_cases h : p < c.length
 ·have e : c.getD p 0 = c[p] := by simp [List.getD, h]
  rw [e]
  exact hw _ (List.getElem_mem h)
 ·have e : c.getD p 0 = 0 := by simp [List.getD, Nat.le_of_not_lt h]
  rw [e]; decide
theorem rowU_part {W : World} {b o n : Nat} {c : List Int} (h : RowU W (some ⟨b, o, none⟩) n c) {p m : Nat} (hm : (c.getD p 0).toNat = m) (hp : p + m < n) : RowU W (some ⟨b, o + (p + 1), none⟩) m (recAt c p) := by
 refine ⟨rec_len hm (by rw [h.1]; exact hp), .inr ⟨b, o + (p + 1), rfl, fun i hi => ?_⟩⟩
 obtain ⟨b', o', e, _, hc⟩ := h.at (by omega)
 cases e
 rw [rec_at hm hi, show o + (p + 1) + i = o + (p + 1 + i) by omega]
 exact hc (p + 1 + i) (by omega)
set_option maxHeartbeats 4000000 in
theorem each_any (F : Nat) (caps : Array Value) (J : Nat → World → Prop) (a : Option Addr) (n cap : Nat) (c : List Int) (w : World) (hJ : ∀ k W, J k W → RowU W a n c) (h0 : J 0 w) (hcap : n ≤ cap) (hw : ∀ x ∈ c, 0 ≤ x ∧ x < 4294967296) (hK : ∀ args w, (callFunc F args).run Tryz.prog w = .ok (.enter F args) w)
  (hf : ∀ (k p m b o : Nat) (W : World), J k W → (itD c k).2 = p → itD c (k + 1) = ((itD c k).1 ++ [recAt c p], p + m + 1) → RowU W (some ⟨b, o, none⟩) m (recAt c p) → 1 ≤ m → m ≤ 64 → p ≤ 2048 → Calls Tryz.prog F (#[.slice (some ⟨b, o, none⟩) m m] ++ caps) W fun e w' => e = .returned (.tuple #[]) ∧ J (k + 1) w') :
  Calls Tryz.prog 65 #[.slice a n cap, .func (.func F) #[] caps] w fun e w' => EPost J c e w' := by
 have hcl := (hJ 0 w h0).1
 have H0 : Hid (J 0 w) := h0
 have HN : Hid (c.length = n) := hcl
 by_cases hmay : 1 ≤ n ∧ n ≤ 2048
 ·obtain ⟨b, o, rfl, _, _⟩ := (hJ 0 w h0).at (by omega)
  have HJ : Hid (∀ k W, J k W → RowU W (some ⟨b, o, none⟩) n c) := hJ
  have HCL : Hid (∀ k W, J k W → ∀ j, j < n → W.cell? ⟨b, o + j, none⟩ = some (.int .u32 (c.getD j 0))) := fun k W h j hj => by
   obtain ⟨b', o', e, _, hc⟩ := (hJ k W h).at (by omega)
   cases e
   exact hc j hj
  have HW : Hid (∀ p, 0 ≤ c.getD p 0 ∧ c.getD p 0 < 4294967296) := get_wd hw
  have HF : Hid (∀ (k p m b o : Nat) (W : World), J k W → (itD c k).2 = p → itD c (k + 1) = ((itD c k).1 ++ [recAt c p], p + m + 1) → RowU W (some ⟨b, o, none⟩) m (recAt c p) → 1 ≤ m → m ≤ 64 → p ≤ 2048 → Calls Tryz.prog F (#[.slice (some ⟨b, o, none⟩) m m] ++ caps) W fun e w' => e = .returned (.tuple #[]) ∧ J (k + 1) w') := hf
  have HMY : Hid (May c) := ⟨by omega, by omega⟩
  obtain ⟨hn1, hn2⟩ := hmay
  have d1 : decide ((n : Int) < 1) = false := by simp; omega
  have d2 : decide ((2048 : Int) < (n : Int)) = false := by simp; omega
  clear hJ hf hw hcl h0
  go_enter Tryz.func65, Tryz.ntmps65
  go_wp2_with fail
  go_loopw [6] (fun v6 wr => ∃ (k p : Nat), p ≤ n ∧ v6 = .int .i64 (p : Int) ∧ (itD c k).2 = p ∧ J k wr) (fun v6 _ => n + 1 - (intOf v6).toNat)
  case atStart => exact ⟨0, 0, Nat.zero_le _, rfl, rfl, H0.out⟩
  case round =>
   obtain ⟨k, p, hp, rfl, hk, hj⟩ := hrel
   have HJK : Hid (J k wr) := hj
   have HK : Hid ((itD c k).2 = p) := hk
   clear hj hk H0
   by_cases hpn : p < n
   ·have k2 := HCL.out k wr HJK.out p hpn
    have hz := HW.out p
    have e1 : decide ((p : Int) < (n : Int)) = true := by simp; omega
    by_cases hz0 : c.getD p 0 = 0
    ·have HL0 : Hid (lenAt c p = 0) := len_zero hz0
     have HE : Hid (EPost J c (.returned (.tuple #[.int .i64 (p : Int), .int .i64 0])) wr) := by
      have hd : ¬ 0 < lenAt c (itD c k).2 := by rw [HK.out, HL0.out]; decide
      have hr := rep_of hd
      exact ⟨_, _, k, rfl, HJK.out, .inr (.inr ⟨HMY.out, by rw [hr, HK.out]; exact HL0.out, hr, by rw [hr, HK.out], rfl⟩)⟩
     rw [hz0] at k2
     clear hz hz0 HJ HCL HW HF HK HJK HL0
     go_wp2_with fail
     go_ret2
     exact HE.out
    ·by_cases hbad : 64 < c.getD p 0 ∨ (n : Int) ≤ p + c.getD p 0
     ·have HE : Hid (EPost J c (.returned (.tuple #[.int .i64 0, .int .i64 3])) wr) := by
       have hl := len_bad (c := c) (p := p) (by rw [HN.out]; exact hpn) hz0 (by rw [HN.out]; exact hbad)
       have hd : ¬ 0 < lenAt c (itD c k).2 := by rw [HK.out]; omega
       exact ⟨_, _, k, rfl, HJK.out, .inr (.inl ⟨HMY.out, by rw [rep_of hd, HK.out]; exact hl, rfl, rfl⟩)⟩
      have e0 : (c.getD p 0 != 0) = true := by simpa using hz0
      clear HJ HCL HW HF HK HJK
      generalize c.getD p 0 = z at *
      obtain ⟨hz1, hz2⟩ := hz
      by_cases h64 : 64 < z
      ·have e3 : decide ((64 : Int) < z) = true := by simpa using h64
       clear hbad
       go_wp2_with fail
       go_ret2
       exact HE.out
      ·have e3 : decide ((64 : Int) < z) = false := by simpa using h64
       have e4 : decide ((n : Int) < (p : Int) + 1 + z) = true := by simp; omega
       clear hbad
       go_wp2_with fail
       go_ret2
       exact HE.out
     ·obtain ⟨m, hm⟩ : ∃ m : Nat, c.getD p 0 = (m : Int) := ⟨(c.getD p 0).toNat, by omega⟩
      have hgm : (c.getD p 0).toNat = m := by rw [hm]; simp
      have hm1 : 1 ≤ m := by omega
      have hm2 : m ≤ 64 := by omega
      have hpm : p + m < n := by omega
      have hla : lenAt c p = (m : Int) := by rw [len_of (by omega) (by omega) (by rw [HN.out]; omega), hm]
      have HIT : Hid (itD c (k + 1) = ((itD c k).1 ++ [recAt c p], p + m + 1)) := by
       have h := it_live (c := c) (k := k) (by rw [HK.out, hla]; omega)
       rw [HK.out, hla, Int.toNat_natCast] at h
       exact h
      have HCC : Hid (Calls Tryz.prog F (#[.slice (some ⟨b, o + (p + 1), none⟩) m m] ++ caps) wr fun e w' => e = .returned (.tuple #[]) ∧ J (k + 1) w') := HF.out k p m b (o + (p + 1)) wr HJK.out HK.out HIT.out (rowU_part (HJ.out k wr HJK.out) hgm hpm) hm1 hm2 (by omega)
      rw [hm] at k2
      have e0 : ((m : Int) != 0) = true := by simp; omega
      have e3 : decide ((64 : Int) < (m : Int)) = false := by simp; omega
      have e4 : decide ((n : Int) < (p : Int) + 1 + (m : Int)) = false := by simp; omega
      have hc1 : p + 1 < cap := by omega
      clear hz hz0 hbad hm hgm hla HF HJ HW HCL
      go_wp2_with fail
      refine HCC.out.mono ?_
      rintro e w1 ⟨rfl, hj1⟩
      have HJ1 : Hid (J (k + 1) w1) := hj1
      clear hj1
      go_wp2_with fail
      go_roundw
      case rel => exact ⟨k + 1, p + m + 1, by omega, by go_num, by rw [HIT.out], HJ1.out⟩
      case measure => simp [intOf]; omega
   ·have e1 : decide ((p : Int) < (n : Int)) = false := by simp; omega
    have HE : Hid (EPost J c (.returned (.tuple #[.int .i64 (p : Int), .int .i64 0])) wr) := by
     have hl : lenAt c p = 0 := len_end (by rw [HN.out]; omega)
     have hd : ¬ 0 < lenAt c (itD c k).2 := by rw [HK.out, hl]; decide
     have hr := rep_of hd
     exact ⟨_, _, k, rfl, HJK.out, .inr (.inr ⟨HMY.out, by rw [hr, HK.out]; exact hl, hr, by rw [hr, HK.out], rfl⟩)⟩
    clear HJ HCL HW HF HK HJK
    go_wp2_with fail
    go_ret2
    exact HE.out
 ·have HE : Hid (EPost J c (.returned (.tuple #[.int .i64 0, .int .i64 1])) w) := ⟨0, 1, 0, rfl, H0.out, .inl ⟨fun h => hmay ⟨by rw [← hcl]; exact h.1, by rw [← hcl]; exact h.2⟩, rfl, rfl⟩⟩
  clear hJ hf hw h0 H0 hcl HN
  go_enter Tryz.func65, Tryz.ntmps65
  by_cases h1 : 1 ≤ n
  ·have d1 : decide ((n : Int) < 1) = false := by simp; omega
   have d2 : decide ((2048 : Int) < (n : Int)) = true := by simp; omega
   go_wp2_with fail
   go_ret2
   exact HE.out
  ·have d1 : decide ((n : Int) < 1) = true := by simp; omega
   go_wp2_with fail
   go_ret2
   exact HE.out
end disk
namespace acc
open tar (Du du0 Came RowD Ld PairT)
open Go.RowKit
set_option maxRecDepth 100000
set_option maxHeartbeats 1000000 in
theorem powe1 (B0 g : Nat) (x : Ac) (p : Option Addr) (len cap : Nat) (q : Du) (w : World) (hB0 : Blk w B0 #[.int .i64 q.a, .int .i64 q.b] 43) (hw : Blk w g (wcs x bi0 p len cap) 121) (hl : Ld 43 w (g + 1) (.slice p len cap) x.ds) (ha : AMay x) : Calls Tryz.prog 45 #[.pointer (some ⟨g, 0, none⟩), .pointer (some ⟨B0, 0, none⟩)] w fun e w' => WPost w g (Or0 (fun y _ f => OweIs x q y f)) e w' := by
 have HIN : Hid (Calls Tryz.prog 46 #[.pointer (some ⟨g, 0, none⟩), .agg #[.int .i64 q.a, .int .i64 q.b]] w fun e w' => WPost w g (Or0 (fun y _ f => OweIs x q y f)) e w') := powe g x p len cap q w hw hl ha
 have HK0 : Hid (Blk w B0 #[.int .i64 q.a, .int .i64 q.b] 43) := hB0
 clear hw ha hl
 go_enter Tryz.func45, Tryz.ntmps45
 go_wp2_with (first | (refine zqw rfl rfl rfl HK0 zqu43 ?_) | fail)
 refine HIN.out.mono ?_
 rintro e w1 hx
 have HX : Hid (WPost w g (Or0 (fun y _ f => OweIs x q y f)) e w1) := hx
 obtain ⟨y, b, q2, n, c, f, rfl, _⟩ := hx
 clear HIN
 go_wp2_with fail
 go_ret
 exact HX.out
set_option maxHeartbeats 4000000 in
theorem kowe : KcOwe := by
 intro w x p len cap q ha hq
 unfold Ac.v Ac.cs
 obtain ⟨W0, HWW, H0d, H0e, H0r, H0B, hs0⟩ := sh3 w #[.int .i64 x.me, .int .i64 x.rv, .int .i64 x.nx, .int .i64 x.mo, .int .i64 x.bo, .int .i64 x.fr, .slice p len cap] 59 #[.int .i64 q.a, .int .i64 q.b] 43 #[.int .i64 0, .int .i64 0, .int .i64 0, .int .i64 0, .int .i64 0, .int .i64 0, .slice none 0 0] 59
 have H0R : Hid (Came W0 p len cap x.ds) := ha.ds.below H0B.out
 go_enter Tryz.func28, Tryz.ntmps28
 go_upto_region 1 with fail
 rw [HWW.out]
 clear HWW
 have HXe : Hid (∀ W, Below W0.heap.size W0 W → Blk W (w.heap.size + 1) #[.int .i64 q.a, .int .i64 q.b] 43) := fun W hW => H0e.out.next hW
 have HWK : Hid (Calls Tryz.prog 44 #[.agg #[.int .i64 x.me, .int .i64 x.rv, .int .i64 x.nx, .int .i64 x.mo, .int .i64 x.bo, .int .i64 x.fr, .slice p len cap], .func (.func 45) #[] #[.pointer (some ⟨w.heap.size + 1, 0, none⟩)]] W0 fun e w' => BPost W0 (fun y _ f => OweIs x q y f) e w') := by
  refine pwork 45 #[.pointer (some ⟨w.heap.size + 1, 0, none⟩)] (fun y _ f => OweIs x q y f) x p len cap W0 H0R.out (fun h => .inl ⟨h, rfl, rfl⟩) (fun _ _ => by kernel_rfl) ?_
  intro hm W g p' cap' hB hg hblk hld
  exact powe1 _ g x p' len cap' q W (HXe.out W hB) hblk hld hm
 clear ha HXe
 go_wp2_with (first
  | (refine zqw rfl rfl rfl H0d zqu59 ?_)
  | (refine zqw rfl rfl rfl H0e zqu43 ?_)
  | (refine zqw rfl rfl rfl H0r zqu59 ?_)
  | fail)
 refine HWK.out.mono ?_
 rintro e w1 ⟨b, l, pr, lr, cr, fz, rfl, hi, hf, hb1⟩
 have H1d := shN H0d hb1
 have H1e := shN H0e hb1
 have H1r := shN H0r hb1
 have H1R : Hid (Came w1 p len cap x.ds) := H0R.out.below hb1
 have H1B := shB H0B hb1
 have hsw1 : W0.heap.size ≤ w1.heap.size := hb1.size
 clear hb1 H0d H0e H0r H0R H0B
 unfold Ac.v Ac.cs Bi.v
 clear HWK
 have H2F : Hid (deb.Fresh w1 W0.heap.size pr lr cr b.ds) := hf
 have HUPF : Hid (0 < lr → ∀ y, pr = some y → y.block < w1.heap.size) := came_lt H2F.out.came
 have HV : Hid (OweIs x q b fz) := hi
 clear hf hi
 obtain ⟨W4, HWW, H3n, H3c, HBB, hsW4⟩ := sh2 w1 #[.int .i64 b.me, .int .i64 b.rv, .int .i64 b.nx, .int .i64 b.mo, .int .i64 b.bo, .int .i64 b.fr, .slice pr lr cr] 59 #[.int .i64 l.id, .int .i64 l.te, .int .i64 l.de, .int .i64 l.fe, .int .i64 l.pr, .int .i64 l.ch, .int .i64 l.un] 69
 have H3d := shN H1d HBB.out
 have H3e := shN H1e HBB.out
 have H3r := shN H1r HBB.out
 have H3F : Hid (deb.Fresh W4 W0.heap.size pr lr cr b.ds) := H2F.out.below HBB.out
 have H3B := shB H1B HBB.out
 clear H1d H1e H1r H2F H1B
 go_upto_region 2 with fail
 rw [HWW.out]
 clear HWW HBB
 go_wp2_with (first
  | (refine zql rfl rfl rfl rfl zqu59 (by simp [Value.oneCell']) H3r rfl ?_)
  | (refine zqw rfl rfl rfl H3d zqu59 ?_)
  | (refine zqw rfl rfl rfl H3e zqu43 ?_)
  | (refine zqw rfl rfl rfl H3r zqu59 ?_)
  | (refine zqw rfl rfl rfl H3n zqu59 ?_)
  | (refine zqw rfl rfl rfl H3c zqu69 ?_)
  | fail)
 intro W5 hU
 have H4d := shK hU H3d (by omega)
 have H4e := shK hU H3e (by omega)
 have H4r : Hid (Blk W5 (w.heap.size + 1 + 1) #[.int .i64 b.me, .int .i64 b.rv, .int .i64 b.nx, .int .i64 b.mo, .int .i64 b.bo, .int .i64 b.fr, .slice pr lr cr] 59) := hU.blk
 have H4n := shK hU H3n (by omega)
 have H4c := shK hU H3c (by omega)
 have H4F : Hid (deb.Fresh W5 W0.heap.size pr lr cr b.ds) := fresh_updN H3F.out hU (fun hn y hy => by have f1 := H3F.out.new hn y hy; have f2 := HUPF.out hn y hy; omega)
 have H4B := shV hU H3B (by omega)
 have hsW5 : W5.heap.size = W4.heap.size := hU.size
 clear hU H3d H3e H3r H3n H3c H3F H3B
 obtain ⟨Rr0, Rr1, Rr2, Rr3, Rr4, Rr5, Rr6⟩ := shc7 H4r
 go_wp2_with fail
 exact bodyPost_ret (v := .tuple #[.agg #[.int .i64 b.me, .int .i64 b.rv, .int .i64 b.nx, .int .i64 b.mo, .int .i64 b.bo, .int .i64 b.fr, .slice pr lr cr], .int .i64 fz]) (by simp [results, Tryz.results28, Rr0.out, Rr1.out, Rr2.out, Rr3.out, Rr4.out, Rr5.out, Rr6.out, go_sem]) rfl ⟨b, pr, lr, cr, fz, rfl, HV.out, H4F.out.low (by omega), H4B.out⟩
end acc
namespace book
open Go.RowKit cell
set_option maxRecDepth 100000
theorem ws_upd {w W : World} {base g : Nat} {cs : Array Value} {t : TypeId} {v : Value} {l : List Int} (h : Ws w base v l) (hU : Upd w W g cs t) (hg : g < base) : Ws W base v l := by
 refine ⟨h.1, ?_⟩
 rcases h.2 with hn | ⟨g', cap, cur, hv, hb, hc, rest⟩
 ·exact .inl hn
 ·exact .inr ⟨g', cap, cur, hv, hb, by rw [hU.oth g' (by omega)]; exact hc, rest⟩
set_option maxHeartbeats 4000000 in
theorem kenc : KEnc := by
 intro w v hwf
 clear hwf
 unfold Ev.v
 have hmf : ∀ (fn : Fn) (first cap : Array Value) (w : World), (Instr.makeFunc fn first cap).run Tryz.prog w = .ok (.func fn first cap) w := fun _ _ _ _ => rfl
 have HMU : Hid (∀ W, Calls Tryz.prog 63 #[.agg #[.int .i64 v.kd, .int .i64 v.me, .int .i64 v.mo, .int .i64 v.id, .int .i64 v.te, .int .i64 v.de, .int .i64 v.fe, .int .i64 v.pr, .int .i64 v.ch, .int .i64 v.un, .int .i64 v.tg, .int .i64 v.ow, .int .i64 v.bp]] W fun e w' => MustPost W v e w') := fun W => bmust v W
 have HWO : Hid (EMay v → ∀ W, Calls Tryz.prog 64 #[.agg #[.int .i64 v.kd, .int .i64 v.me, .int .i64 v.mo, .int .i64 v.id, .int .i64 v.te, .int .i64 v.de, .int .i64 v.fe, .int .i64 v.pr, .int .i64 v.ch, .int .i64 v.un, .int .i64 v.tg, .int .i64 v.ow, .int .i64 v.bp]] W fun e w' => ∃ V, e = .returned V ∧ Ws w' W.heap.size V (evL v) ∧ Below W.heap.size W w') := fun hm W => bwords v (may_word hm) W
 obtain ⟨W1, HWW, HX1, HE1, HB1, -⟩ := sh2 w #[.int .i64 v.kd, .int .i64 v.me, .int .i64 v.mo, .int .i64 v.id, .int .i64 v.te, .int .i64 v.de, .int .i64 v.fe, .int .i64 v.pr, .int .i64 v.ch, .int .i64 v.un, .int .i64 v.tg, .int .i64 v.ow, .int .i64 v.bp] 71 #[.int .i64 0] 30
 go_enter_defers Tryz.func40, Tryz.ntmps40
 go_upto_region 2 with fail
 rw [HWW.out]
 clear HWW
 obtain ⟨c0, c1, c2, c3, c4, c5, c6, c7, c8, c9, c10, c11, c12⟩ := scl13 HX1
 go_wp2_with fail
 refine (HMU.out _).mono ?_
 rintro e W2 ⟨hm, hb⟩
 have HX2 := shN HX1 hb
 have HE2 := shN HE1 hb
 have HB2 := shB HB1 hb
 clear hb HX1 HE1 HB1 HMU c0 c1 c2 c3 c4 c5 c6 c7 c8 c9 c10 c11 c12
 rcases hm with ⟨hm, rfl⟩ | ⟨hm, rfl⟩
 ·have HY : Hid (EMay v) := hm
  have HWV := HWO.out hm
  have HWV' : Hid (∀ W, Calls Tryz.prog 64 #[.agg #[.int .i64 v.kd, .int .i64 v.me, .int .i64 v.mo, .int .i64 v.id, .int .i64 v.te, .int .i64 v.de, .int .i64 v.fe, .int .i64 v.pr, .int .i64 v.ch, .int .i64 v.un, .int .i64 v.tg, .int .i64 v.ow, .int .i64 v.bp]] W fun e w' => ∃ V, e = .returned V ∧ Ws w' W.heap.size V (evL v) ∧ Below W.heap.size W w') := HWV
  clear hm HWO HWV
  obtain ⟨c0, c1, c2, c3, c4, c5, c6, c7, c8, c9, c10, c11, c12⟩ := scl13 HX2
  go_wp2_with fail
  refine (HWV'.out _).mono ?_
  rintro e W3 ⟨V, rfl, hV, hb⟩
  have HE3 := shN HE2 hb
  have HB3 := shB HB2 hb
  have HV3 : Hid (Ws W3 W2.heap.size V (evL v)) := hV
  have hgs : Hid (w.heap.size + 1 < W2.heap.size) := HE2.out.lt
  clear hb hV HX2 HE2 HB2 HWV' c0 c1 c2 c3 c4 c5 c6 c7 c8 c9 c10 c11 c12
  go_wp2_with (first | (refine wp_let1 rfl 30 _ _ rfl (w.heap.size + 1) 0 rfl .i64 0 rfl (by kernel_rfl) #[.int .i64 0] 30 HE3.out (by decide) ?_) | fail)
  intro W4 hU
  have HE4 : Hid (Blk W4 (w.heap.size + 1) #[.int .i64 0] 30) := hU.blk
  have HB4 := shV hU HB3 (by omega)
  have HV4 : Hid (Ws W4 W2.heap.size V (evL v)) := ws_upd HV3.out hU hgs.out
  clear hU
  go_wp2_with fail
  refine leaves_cons (f := 62) (args := #[.pointer (some ⟨w.heap.size + 1, 0, none⟩)]) (by simp) (by simp [go_sem]) ?_
  refine (encode_idle (w.heap.size + 1) 0 _ HE4.out).mono ?_
  rintro e u' w5 ⟨rfl, hs, W, hb, hU⟩
  have r0 : w5.cell? ⟨w.heap.size + 1, 0, none⟩ = some (.int .i64 0) := hU.blk.cell 0
  have HB5 : Below w.heap.size w w5 := hU.bel _ _ (by omega) (bel_step HB4.out hb)
  have HV5 : Ws w5 W2.heap.size V (evL v) := ws_upd (HV4.out.next hb) hU hgs.out
  obtain ⟨a, cap, hva, hrow, h1, h2⟩ := HV5.row
  show Leaves _ _ _ _ [] (settle u') w5
  rw [hs]
  refine ⟨.tuple #[V, .int .i64 0], by simp [results, Tryz.results40, r0, go_sem], ?_⟩
  subst hva
  exact ⟨a, _, cap, evL v, 0, rfl, .inl ⟨HY.out, rfl, rfl⟩, hrow, h1, h2, by rw [evL_len]; exact Nat.le_refl _, HB5⟩
 ·have HN : Hid (¬ EMay v) := hm
  clear hm HWO
  refine leaves_cons (f := 62) (args := #[.pointer (some ⟨w.heap.size + 1, 0, none⟩)]) (by simp) (by simp [go_sem]) ?_
  refine (encode_caught (w.heap.size + 1) 0 5 _ HE2.out).mono ?_
  rintro e u' w5 ⟨rfl, hs, W, hb, hU⟩
  have r0 : w5.cell? ⟨w.heap.size + 1, 0, none⟩ = some (.int .i64 5) := hU.blk.cell 0
  have HB5 : Below w.heap.size w w5 := hU.bel _ _ (by omega) (bel_step HB2.out hb)
  show Leaves _ _ _ _ [] (settle u') w5
  rw [hs]
  refine ⟨.tuple #[.slice none 0 0, .int .i64 5], by simp [results, Tryz.results40, r0, go_sem], ?_⟩
  exact ⟨none, 0, 0, [], 5, rfl, .inr ⟨HN.out, rfl, rfl⟩, RowU.nil _ _, fun _ => rfl, Nat.le_refl _, Nat.zero_le _, HB5⟩
end book
namespace disk
open Go.RowKit cell
set_option maxRecDepth 100000
theorem make_wr (m : Nat) (h : m ≤ 100000) (w : World) : (Instr.makeSlice 37 (.int .i64 0) (.int .i64 ((m : Int) + 2))).run Tryz.prog w = .ok (.slice (some ⟨w.heap.size, 0, none⟩) 0 (m + 2)) (w.alloc (.cells (madeCells (Value.agg #[.int .i64 0, .int .u32 0]).cells ((m + 2) * 2)) 76)) := by
 obtain ⟨i0, hi, hz0, hz1, hz2⟩ := info_parts info_wr
 have := run_make (P := Tryz.prog) w 37 76 i0 (.agg #[.int .i64 0, .int .u32 0]) Tryz.underlying37 hi hz0 .i64 .i64 0 ((m : Int) + 2) (by omega) (by omega) (by rw [hz2]; omega) (by omega)
 rw [hz1, show ((m : Int) + 2).toNat = m + 2 by omega] at this
 exact this
theorem put_next2 (p k : Nat) (r : List Int) : putW p r k ++ [⟨(p : Int) + 1 + (k : Int), r.getD k 0⟩] = putW p r (k + 1) := by
 rw [putW, show ((p + k + 1 : Nat) : Int) = (p : Int) + 1 + (k : Int) by omega]
theorem app_yes2 {c : List Int} {p k : Nat} {r : List Int} (hk : r.length = k) (h : p + k + 1 < c.length) : putW p r k ++ [⟨(p : Int) + 1 + (k : Int), 0⟩] ++ [⟨(p : Int), (k : Int)⟩] = appW c p r := by
 subst hk
 rw [← app_yes h, show (p : Int) + 1 + (r.length : Int) = (p : Int) + (r.length : Int) + 1 by omega]
theorem app_no2 {c : List Int} {p k : Nat} {r : List Int} (hk : r.length = k) (h : ¬ p + k + 1 < c.length) : putW p r k ++ [⟨(p : Int), (k : Int)⟩] = appW c p r := by
 subst hk
 exact app_no h
set_option maxHeartbeats 4000000 in
theorem laying_any (a : Option Addr) (m cap2 : Nat) (r c : List Int) (p n : Nat) (w : World) (h : RowU w a m r) (h1 : 1 ≤ m) (h2 : m ≤ 64) (hp : p ≤ 2048) (hn : n ≤ 2048) (hc : c.length = n) :
  Calls Tryz.prog 67 #[.slice a m cap2, .int .i64 (p : Int), .int .i64 (n : Int)] w fun e w' => ∃ V, e = .returned V ∧ Lw w' w.heap.size V (appW c p r) ∧ Below w.heap.size w w' := by
 obtain ⟨b, o, rfl, lb, hcl⟩ := h.at (by omega)
 have HCL : Hid (∀ W, Below w.heap.size w W → ∀ j, j < m → W.cell? ⟨b, o + j, none⟩ = some (.int .u32 (r.getD j 0))) := fun W hB j hj => (hB.cell (p := ⟨b, o + j, none⟩) lb).trans (hcl j hj)
 have HN : Hid (c.length = n ∧ r.length = m) := ⟨hc, h.1⟩
 have hmk := make_wr m (by omega) w
 have HL0 : Hid (Lw (w.alloc (.cells (madeCells (Value.agg #[.int .i64 0, .int .u32 0]).cells ((m + 2) * 2)) 76)) w.heap.size (.slice (some ⟨w.heap.size, 0, none⟩) 0 (m + 2)) []) := World.ownsRow_made w _ (m + 2) (Nat.le_refl _) (by unfold maxLen; omega) (size_madeCells _ _)
 have HB0 : Hid (Below w.heap.size w (w.alloc (.cells (madeCells (Value.agg #[.int .i64 0, .int .u32 0]).cells ((m + 2) * 2)) 76))) := (Below.refl _ _).alloc (Nat.le_refl _) _
 clear h hc hcl lb
 generalize (w.alloc (.cells (madeCells (Value.agg #[.int .i64 0, .int .u32 0]).cells ((m + 2) * 2)) 76)) = W0 at *
 go_enter Tryz.func67, Tryz.ntmps67
 go_wp2_with fail
 clear hmk
 go_loopw [7, 8, 19] (fun v7 v8 v19 wr => ∃ (k : Nat) (V : Value), k ≤ m ∧ V = v7 ∧ v8 = .int .i64 ((p : Int) + 1 + (k : Int)) ∧ v19 = .int .i64 (k : Int) ∧ Lw wr w.heap.size V (putW p r k) ∧ Below w.heap.size w wr) (fun _ _ v19 _ => m - (intOf v19).toNat)
 case atStart => exact ⟨0, _, Nat.zero_le _, rfl, by go_num, rfl, HL0.out, HB0.out⟩
 case round =>
  obtain ⟨k, V, hk, hV, rfl, rfl, hlw, hbl⟩ := hrel
  subst hV
  have HBL : Hid (Below w.heap.size w wr) := hbl
  have hs6 : (putW p r k).length ≤ 1000000 := by rw [put_len]; omega
  have HUA : Hid (∀ o, Lw (wr.alloc o) w.heap.size V (putW p r k)) := fun o => hlw.alloc o
  have HBA : Hid (∀ o, Below w.heap.size w (wr.alloc o)) := fun o => hbl.alloc hbl.size o
  have HSA : Hid (∀ o, w.heap.size ≤ (wr.alloc o).heap.size) := fun o => (hbl.alloc hbl.size o).size
  clear hlw hbl HL0 HB0
  by_cases hkm : k < m
  ·have k2 := HCL.out wr HBL.out k hkm
   have HPN : Hid (putW p r k ++ [⟨(p : Int) + 1 + (k : Int), r.getD k 0⟩] = putW p r (k + 1)) := put_next2 p k r
   generalize r.getD k 0 = u at *
   go_wp2_with (first | (refine wp_write rfl _ _ rfl w.heap.size wr.heap.size V (putW p r k) ⟨(p : Int) + 1 + (k : Int), u⟩ rfl rfl (HUA.out _) ⟨(Blk.new wr _ _).cell 0, (Blk.new wr _ _).cell 1⟩ hs6 (HSA.out _) ?_; intro v3 w3 h3 hg3; have hb3 := own_bel (HUA.out _) hg3 (HBA.out _) (Nat.le_refl _) (HSA.out _); have H3 : Hid (Lw w3 w.heap.size v3 (putW p r k ++ [(⟨(p : Int) + 1 + (k : Int), u⟩ : Wr)])) := h3; have HB3 : Hid (Below w.heap.size w w3) := hb3; clear h3 hg3 hb3) | fail)
   go_roundw
   case rel => exact ⟨k + 1, v3, by omega, rfl, by go_num, by go_num, by rw [← HPN.out]; exact H3.out, HB3.out⟩
   case measure => simp [intOf]; omega
  ·obtain rfl : k = m := by omega
   by_cases hz : (p : Int) + 1 + (k : Int) < (n : Int)
   ·have HQ : Hid (putW p r k ++ [⟨(p : Int) + 1 + (k : Int), 0⟩] ++ [⟨(p : Int), (k : Int)⟩] = appW c p r) := app_yes2 HN.out.2 (by rw [HN.out.1]; omega)
    have hs7 : (putW p r k ++ [(⟨(p : Int) + 1 + (k : Int), 0⟩ : Wr)]).length ≤ 1000000 := by rw [List.length_append, put_len]; simp; omega
    go_upto_region 11 with (first | (refine wp_write rfl _ _ rfl w.heap.size wr.heap.size V (putW p r k) ⟨(p : Int) + 1 + (k : Int), 0⟩ rfl rfl (HUA.out _) ⟨(Blk.new wr _ _).cell 0, (Blk.new wr _ _).cell 1⟩ hs6 (HSA.out _) ?_; intro v3 w3 h3 hg3; have hb3 := own_bel (HUA.out _) hg3 (HBA.out _) (Nat.le_refl _) (HSA.out _); have H3 : Hid (Lw w3 w.heap.size v3 (putW p r k ++ [(⟨(p : Int) + 1 + (k : Int), 0⟩ : Wr)])) := h3; have HB3 : Hid (Below w.heap.size w w3) := hb3; clear h3 hg3 hb3) | fail)
    have HU3 : Hid (∀ o, Lw (w3.alloc o) w.heap.size v3 (putW p r k ++ [(⟨(p : Int) + 1 + (k : Int), 0⟩ : Wr)])) := fun o => H3.out.alloc o
    have HBB : Hid (∀ o, Below w.heap.size w (w3.alloc o)) := fun o => HB3.out.alloc HB3.out.size o
    have HS3 : Hid (∀ o, w.heap.size ≤ (w3.alloc o).heap.size) := fun o => (HB3.out.alloc HB3.out.size o).size
    clear HUA HBA HSA HBL H3 HB3
    go_wp2_with (first | (refine wp_write rfl _ _ rfl w.heap.size w3.heap.size v3 (putW p r k ++ [(⟨(p : Int) + 1 + (k : Int), 0⟩ : Wr)]) ⟨(p : Int), (k : Int)⟩ rfl rfl (HU3.out _) ⟨(Blk.new w3 _ _).cell 0, (Blk.new w3 _ _).cell 1⟩ hs7 (HS3.out _) ?_; intro v4 w4 h3 hg3; have hb3 := own_bel (HU3.out _) hg3 (HBB.out _) (Nat.le_refl _) (HS3.out _); have H4 : Hid (Lw w4 w.heap.size v4 (putW p r k ++ [(⟨(p : Int) + 1 + (k : Int), 0⟩ : Wr)] ++ [(⟨(p : Int), (k : Int)⟩ : Wr)])) := h3; have HB4 : Hid (Below w.heap.size w w4) := hb3; clear h3 hg3 hb3) | fail)
    go_ret
    exact ⟨v4, rfl, by rw [← HQ.out]; exact H4.out, HB4.out⟩
   ·have HQ : Hid (putW p r k ++ [⟨(p : Int), (k : Int)⟩] = appW c p r) := app_no2 HN.out.2 (by rw [HN.out.1]; omega)
    go_wp2_with (first | (refine wp_write rfl _ _ rfl w.heap.size wr.heap.size V (putW p r k) ⟨(p : Int), (k : Int)⟩ rfl rfl (HUA.out _) ⟨(Blk.new wr _ _).cell 0, (Blk.new wr _ _).cell 1⟩ hs6 (HSA.out _) ?_; intro v4 w4 h3 hg3; have hb3 := own_bel (HUA.out _) hg3 (HBA.out _) (Nat.le_refl _) (HSA.out _); have H4 : Hid (Lw w4 w.heap.size v4 (putW p r k ++ [(⟨(p : Int), (k : Int)⟩ : Wr)])) := h3; have HB4 : Hid (Below w.heap.size w w4) := hb3; clear h3 hg3 hb3) | fail)
    go_ret
    exact ⟨v4, rfl, by rw [← HQ.out]; exact H4.out, HB4.out⟩
theorem nothing_done (v : Value) (w : World) : Calls Tryz.prog 66 #[v] w fun e w' => e = .returned (.tuple #[]) ∧ w' = w := by
 go_enter Tryz.func66, Tryz.ntmps66
 go_wp2_with fail
 go_end0
 exact ⟨rfl, rfl⟩
set_option maxHeartbeats 4000000 in
theorem kappend : KAppend := by
 intro w a n cap c b m cap2 r h hnil hcap hby hw h2 hnil2 hcap2 hby2 hw2
 have hrl := h2.1
 by_cases hmay : 1 ≤ m ∧ m ≤ 64
 ·have HE : Hid (Calls Tryz.prog 65 #[.slice a n cap, .func (.func 66) #[] #[]] w fun e w' => EPost (fun _ W => W = w) c e w') := by
   refine each_any 66 #[] (fun _ W => W = w) a n cap c w (fun k W hj => by rw [hj]; exact h) rfl hcap hw (fun _ _ => by kernel_rfl) ?_
   intro k p m b o W hj hp hit hr h1 h2 h3
   refine (nothing_done _ W).mono ?_
   rintro e w' ⟨rfl, rfl⟩
   exact ⟨rfl, hj⟩
  have HMY : Hid (RMay r) := ⟨by omega, by omega⟩
  have HN : Hid (c.length = n ∧ r.length = m) := ⟨h.1, hrl⟩
  have HL : Hid (∀ p : Nat, p ≤ 2048 → n ≤ 2048 → Calls Tryz.prog 67 #[.slice b m cap2, .int .i64 (p : Int), .int .i64 (n : Int)] w fun e w' => ∃ V, e = .returned V ∧ Lw w' w.heap.size V (appW c p r) ∧ Below w.heap.size w w') := fun p hp hn => laying_any b m cap2 r c p n w h2 hmay.1 hmay.2 hp hn h.1
  obtain ⟨hm1, hm2⟩ := hmay
  have d1 : decide ((m : Int) < 1) = false := by simp; omega
  have d2 : decide ((64 : Int) < (m : Int)) = false := by simp; omega
  clear h hnil hcap hby hw h2 hnil2 hcap2 hby2 hw2 hrl
  go_enter Tryz.func41, Tryz.ntmps41
  go_wp2_with fail
  refine HE.out.mono ?_
  rintro e w1 ⟨x, f, k, rfl, hj, hi⟩
  subst hj
  have HI : Hid ((¬ May c ∧ x = 0 ∧ f = 1) ∨ (May c ∧ lenAt c (repD c).2 < 0 ∧ x = 0 ∧ f = 3) ∨ (May c ∧ lenAt c (repD c).2 = 0 ∧ repD c = itD c k ∧ x = ((repD c).2 : Int) ∧ f = 0)) := hi
  clear hi HE d1 d2
  by_cases hf : f = 0
  ·obtain ⟨hmy, hl0, hx⟩ : May c ∧ lenAt c (repD c).2 = 0 ∧ x = ((repD c).2 : Int) := by
    rcases HI.out with ⟨_, _, e⟩ | ⟨_, _, _, e⟩ | ⟨q1, q2, _, q4, _⟩
    ·rw [hf] at e; exact absurd e (by decide)
    ·rw [hf] at e; exact absurd e (by decide)
    ·exact ⟨q1, q2, q4⟩
   have HPB : Hid ((repD c).2 ≤ n) := by show _ ≤ _; rw [← HN.out.1]; exact rep_bound c
   have HFU : Hid (n ≤ (repD c).2 + m → AppIs c r [] 16) := fun hh => .inr (.inr (.inr (.inl ⟨HMY.out, hmy, hl0, by rw [HN.out.1, HN.out.2]; exact hh, rfl, rfl⟩)))
   have HOK : Hid ((repD c).2 + m < n → AppIs c r (appW c (repD c).2 r) 0) := fun hh => .inr (.inr (.inr (.inr ⟨HMY.out, hmy, hl0, by rw [HN.out.1, HN.out.2]; exact hh, rfl, rfl⟩)))
   have hn2 : n ≤ 2048 := by have := hmy.2; rw [HN.out.1] at this; exact this
   subst hf
   subst hx
   clear HI hmy hl0 HMY
   generalize (repD c).2 = p at *
   have hpn := HPB.out
   clear HPB
   by_cases hfu : n ≤ p + m
   ·have HA : Hid (AppIs c r [] 16) := HFU.out hfu
    have e1 : decide ((n : Int) < (p : Int) + 1 + (m : Int)) = true := by simp; omega
    clear HFU HOK HL
    go_wp2_with fail
    go_ret2
    exact ⟨none, 0, 0, [], 16, rfl, RowW.nil _ _, (fun x hx => by cases hx), Nat.le_refl _, Nat.zero_le _, HA.out, Below.refl _ _⟩
   ·have HA : Hid (AppIs c r (appW c p r) 0) := HOK.out (by omega)
    have e1 : decide ((n : Int) < (p : Int) + 1 + (m : Int)) = false := by simp; omega
    have HL1 := HL.out p (by omega) hn2
    have HLY : Hid (Calls Tryz.prog 67 #[.slice b m cap2, .int .i64 (p : Int), .int .i64 (n : Int)] w1 fun e w' => ∃ V, e = .returned V ∧ Lw w' w1.heap.size V (appW c p r) ∧ Below w1.heap.size w1 w') := HL1
    clear HFU HOK HL HL1
    go_wp2_with fail
    refine HLY.out.mono ?_
    rintro e w2 ⟨V, rfl, hlw, hb⟩
    obtain ⟨va, vc, rfl, hrow, _, hle, _⟩ := hlw.row
    have HNW : Hid (∀ x, va = some x → w1.heap.size ≤ x.block) := fun x hx => by
     subst hx
     exact (World.ownsRow.lt hlw x.block rfl).1
    have HRW : Hid (RowW w2 va (appW c p r).length (appW c p r)) := hrow
    have HLE : Hid ((appW c p r).length ≤ vc) := hle
    have HFW : Hid ((appW c p r).length ≤ 100000) := Nat.le_trans (app_few HA.out) (by decide)
    have HB2 : Hid (Below w1.heap.size w1 w2) := hb
    clear hlw hb hrow hle HLY
    generalize appW c p r = ls at *
    generalize hzl : ls.length = zl at *
    clear hzl
    go_wp2_with fail
    go_ret2
    exact ⟨va, _, vc, ls, 0, rfl, HRW.out, HNW.out, HLE.out, HFW.out, HA.out, HB2.out⟩
  ·have HA : Hid (AppIs c r [] f) := by
    rcases HI.out with ⟨q1, _, rfl⟩ | ⟨q1, q2, _, rfl⟩ | ⟨_, _, _, _, e⟩
    ·exact .inr (.inl ⟨HMY.out, q1, rfl, rfl⟩)
    ·exact .inr (.inr (.inl ⟨HMY.out, q1, q2, rfl, rfl⟩))
    ·exact absurd e hf
   have hne : (f != 0) = true := by simpa using hf
   clear HI hf HL
   go_wp2_with fail
   go_ret2
   exact ⟨none, 0, 0, [], f, rfl, RowW.nil _ _, (fun x hx => by cases hx), Nat.le_refl _, Nat.zero_le _, HA.out, Below.refl _ _⟩
 ·have HA : Hid (AppIs c r [] 1) := .inl ⟨fun h => hmay ⟨by rw [← hrl]; exact h.1, by rw [← hrl]; exact h.2⟩, rfl, rfl⟩
  clear h hnil hcap hby hw h2 hnil2 hcap2 hby2 hw2 hrl
  go_enter Tryz.func41, Tryz.ntmps41
  by_cases h1 : 1 ≤ m
  ·have d1 : decide ((m : Int) < 1) = false := by simp; omega
   have d2 : decide ((64 : Int) < (m : Int)) = true := by simp; omega
   go_wp2_with fail
   go_ret2
   exact ⟨none, 0, 0, [], 1, rfl, RowW.nil _ _, (fun x hx => by cases hx), Nat.le_refl _, Nat.zero_le _, HA.out, Below.refl _ _⟩
  ·have d1 : decide ((m : Int) < 1) = true := by simp; omega
   go_wp2_with fail
   go_ret2
   exact ⟨none, 0, 0, [], 1, rfl, RowW.nil _ _, (fun x hx => by cases hx), Nat.le_refl _, Nat.zero_le _, HA.out, Below.refl _ _⟩
end disk
end Go.Proofs.YtomibnggmhjdfaaGreat
