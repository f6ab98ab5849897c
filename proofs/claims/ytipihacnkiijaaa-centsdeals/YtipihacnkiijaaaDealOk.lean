/- What cents.Deal deals out. -/
import Derived.Test.YtipihacnkiijaaaDeal
import Derived.Deep.DeepCutAuto
namespace Go.Proofs.Ytipihacnkiijaaa.cents
open Go.RowKit

/-- The shares, as a list. -/
def shares (total all : Int) (zs : List Int) (len : Nat) : List Int := (List.range len).map (share total all zs)
/-- What is left of the total. -/
def leftOf (total all : Int) (zs : List Int) (len : Nat) : Int := total - (shares total all zs len).sum

/-- A slice was given back, in a new block g: the shares, and one more at the first places of f, as many as are left. -/
def DealPost (w : World) (total all : Int) (zs : List Int) (len : Nat) (e : Ending) (w' : World) : Prop :=
  ∃ g f, e = .returned (.tuple #[.slice (some ⟨g, 0, none⟩) len len, .int .i64 0]) ∧ Below w.heap.size w w' ∧ w.heap.size ≤ g ∧ Mix idz f 0 len ∧ Srt (lost total all zs) f 0 len ∧
    ∀ i, i < len → w'.cell? ⟨g, i, none⟩ = some (.int .i64 (share total all zs i + bump f (leftOf total all zs len).toNat i))

theorem bump_bd (f : Nat → Int) (t i : Nat) : 0 ≤ bump f t i ∧ bump f t i ≤ t := by
  induction t with
  | zero => simp [bump]
  | succ t ih =>
    simp only [bump]
    split <;> omega

theorem mem_le_sum (l : List Int) (h : ∀ z ∈ l, 0 ≤ z) : 0 ≤ l.sum ∧ ∀ z ∈ l, z ≤ l.sum := by
  induction l with
  | nil => simp
  | cons x r ih =>
    obtain ⟨i1, i2⟩ := ih fun z hz => h z (List.mem_cons_of_mem _ hz)
    have hx := h x (List.mem_cons_self ..)
    rw [List.sum_cons]
    refine ⟨by omega, fun z hz => ?_⟩
    rcases List.mem_cons.1 hz with e | e
    · rw [e]; omega
    · have := i2 z e; omega

theorem share_bd {total all : Int} {len k : Nat} {zs : List Int} (h : Fit total all len zs) (ha : ∀ z ∈ zs, z ≤ all) (hk : k < zs.length) : 0 ≤ share total all zs k ∧ share total all zs k ≤ 1000000000000 := by
  have hm : zs.getD k 0 ∈ zs := by simp [List.getD, List.getElem?_eq_getElem hk]
  have hz := h.w0 _ hm
  have hz2 := ha _ hm
  have hs := h.a0
  unfold share
  have hp := Int.mul_nonneg h.t0 hz.1
  refine ⟨Int.ediv_nonneg hp (by omega), ?_⟩
  have h1 : total * zs.getD k 0 ≤ total * all := Int.mul_le_mul_of_nonneg_left hz2 h.t0
  have h2 := Int.ediv_le_ediv hs h1
  rw [Int.mul_ediv_cancel total (by omega)] at h2
  have := h.t1
  omega

theorem slice_to (len L g : Nat) (w : World) (h : L ≤ len) : (Instr.slice 22 (.slice (some ⟨g, 0, none⟩) len len) none (some (.int .i64 (L : Int))) none).run Try.prog w = .ok (.slice (some ⟨g, 0, none⟩) L len) w := by
  simp [Instr.slice, Instr.sliceBounds, Instr.sliceBound, asIntOf, run_underlying Try.underlying22, h, go_sem]

theorem heap_push (h : Array Obj) (o : Obj) (k : Nat) (hk : k < h.size) : (h.push o)[k]? = h[k]? := by rw [Array.getElem?_push, if_neg (by omega)]

theorem cells4 (w : World) (v1 v2 v3 v4 : Value) (t1 t2 t3 t4 : TypeId) :
    ((((w.alloc (.cells #[v1] t1)).alloc (.cells #[v2] t2)).alloc (.cells #[v3] t3)).alloc (.cells #[v4] t4)).cell? ⟨w.heap.size, 0, none⟩ = some v1 ∧
    ((((w.alloc (.cells #[v1] t1)).alloc (.cells #[v2] t2)).alloc (.cells #[v3] t3)).alloc (.cells #[v4] t4)).cell? ⟨w.heap.size + 1, 0, none⟩ = some v2 ∧
    ((((w.alloc (.cells #[v1] t1)).alloc (.cells #[v2] t2)).alloc (.cells #[v3] t3)).alloc (.cells #[v4] t4)).cell? ⟨w.heap.size + 1 + 1 + 1, 0, none⟩ = some v4 := by
  refine ⟨?_, ?_, ?_⟩
  · have : ((((w.heap.push (.cells #[v1] t1)).push (.cells #[v2] t2)).push (.cells #[v3] t3)).push (.cells #[v4] t4))[w.heap.size]? = some (.cells #[v1] t1) := by
      rw [heap_push _ _ _ (by simp; omega), heap_push _ _ _ (by simp; omega), heap_push _ _ _ (by simp)]; simp
    simp only [World.cell?, World.alloc, this]; rfl
  · have : ((((w.heap.push (.cells #[v1] t1)).push (.cells #[v2] t2)).push (.cells #[v3] t3)).push (.cells #[v4] t4))[w.heap.size + 1]? = some (.cells #[v2] t2) := by
      rw [heap_push _ _ _ (by simp), heap_push _ _ _ (by simp)]
      have e : w.heap.size + 1 = (w.heap.push (.cells #[v1] t1)).size := by simp
      rw [e]; exact Array.getElem?_push_size
    simp only [World.cell?, World.alloc, this]; rfl
  · have : ((((w.heap.push (.cells #[v1] t1)).push (.cells #[v2] t2)).push (.cells #[v3] t3)).push (.cells #[v4] t4))[w.heap.size + 1 + 1 + 1]? = some (.cells #[v4] t4) := by
      have e : w.heap.size + 1 + 1 + 1 = (((w.heap.push (.cells #[v1] t1)).push (.cells #[v2] t2)).push (.cells #[v3] t3)).size := by simp
      rw [e]; exact Array.getElem?_push_size
    simp only [World.cell?, World.alloc, this]; rfl

set_option maxHeartbeats 2000000 in
theorem deal_ok (total : Int) (a : Option Addr) (len cap : Nat) (zs : List Int) (w : World) (hr : Row w a len zs) (h0 : 0 < len) (h1 : len ≤ 50) (t0 : 0 ≤ total) (t1 : total ≤ 1000000000000) (hok : okAll 0 1000000 zs = true) (hs : 0 < zs.sum)
    (hl0 : 0 ≤ leftOf total zs.sum zs len) (hl1 : leftOf total zs.sum zs len ≤ len) :
    Calls Try.prog 10 #[.int .i64 total, .slice a len cap] w fun e w' => DealPost w total zs.sum zs len e w' := by
  obtain ⟨i0, hi, hz0, hz1, hz2⟩ := info_parts info_int
  have e1 : ((len : Int) == 0) = false := by simp; omega
  have HR : Hid (Row w a len zs) := hr
  have HK : Hid (okAll 0 1000000 zs = true) := hok
  have hsb := sum_bd 1000000 zs (fun z hz => by have := okW hok z hz; omega)
  have hlz : zs.length = len := hr.1
  have e2 : (zs.sum == 0) = false := by simp; omega
  have hs1 : zs.sum ≤ 50000000 := by rw [hlz] at hsb; omega
  have HF : Hid (Fit total zs.sum len zs) := ⟨t0, t1, okW hok, hs, hs1, h1⟩
  have HW : Hid (∀ z ∈ zs, 0 ≤ z ∧ z ≤ 1000000) := okW hok
  have HZA : Hid (∀ z ∈ zs, z ≤ zs.sum) := (mem_le_sum zs (fun z hz => (okW hok z hz).1)).2
  clear hr hok hsb
  generalize hall : zs.sum = all at *
  have HALL : Hid (zs.sum = all) := hall
  clear hall
  go_enter Try.func10, Try.ntmps10
  go_wp2_with fail
  refine (within_one_yes _ _ _ _ _ (by simp) t0 t1).mono ?_
  rintro e w' ⟨rfl, rfl⟩
  go_wp2_with fail
  refine (within_any 0 1000000 a len cap zs _ (HR.out.below (bel3 _ _ _ _)) (by unfold maxLen; omega)).mono ?_
  rintro e w' ⟨rfl, rfl⟩
  rw [HK.out]
  go_wp2_with fail
  refine (add_any a len cap zs _ (HR.out.below (bel3 _ _ _ _)) h1 (fun z hz => by have := HW.out z hz; omega)).mono ?_
  rintro e w' ⟨rfl, rfl⟩
  rw [HALL.out]
  go_wp2_with (first
    | (at_make; refine wpList_make_full _ rfl _ _ 22 rfl (w.heap.size + 4) 3 i0 (.int .i64 0) 1 Try.underlying22 hi hz0 hz1 _ _ _ _ len rfl rfl ?c0 ?c1 ?c2 ?c3 ?c4 ?_))
  case c0 => rfl
  case c1 => rfl
  case c2 => rw [hz2]; omega
  case c3 => unfold maxLen; omega
  case c4 => simp
  intro w5 hown hgr
  have HO5 : Hid (Own w5 w5 (w.heap.size + 1 + 1 + 1 + 1) len (fun _ => 0)) := own_made hown
  have hb5 : Below w.heap.size w w5 := (bel4 w _ _ _ _).trans (((Below.refl _ _).grown hgr (Nat.le_refl _) (fun k hk => by cases hk)).mono (by simp; omega))
  have hc5 : Caps w5 w.heap.size (w.heap.size + 1) (w.heap.size + 1 + 1 + 1) total all a len cap zs :=
    ⟨hgr.cell (cells4 w _ _ _ _ _ _ _ _).1 (by simp), hgr.cell (cells4 w _ _ _ _ _ _ _ _).2.1 (by simp), hgr.cell (cells4 w _ _ _ _ _ _ _ _).2.2 (by simp), HR.out.below hb5⟩
  have hcw : ∀ wr f, Own w5 wr (w.heap.size + 1 + 1 + 1 + 1) len f → Caps wr w.heap.size (w.heap.size + 1) (w.heap.size + 1 + 1 + 1) total all a len cap zs := by
    intro wr f ho
    refine hc5.own ho (by omega) (by omega) (by omega) ?_
    intro b off hab hlen
    rcases HR.out.2 with h | ⟨b', off', hab', hcell⟩
    · omega
    · rw [hab] at hab'
      simp only [Option.some.injEq, Addr.mk.injEq] at hab'
      have := block_lt (hcell 0 hlen)
      simp only at this
      omega
  have HCW : Hid (∀ wr f, Own w5 wr (w.heap.size + 1 + 1 + 1 + 1) len f → Caps wr w.heap.size (w.heap.size + 1) (w.heap.size + 1 + 1 + 1) total all a len cap zs) := hcw
  have hsz5 : w.heap.size + 1 + 1 + 1 + 1 < w5.heap.size := by
    by_cases hh : w.heap.size + 1 + 1 + 1 + 1 < w5.heap.size
    · exact hh
    · have := HO5.out.row; rw [Array.getElem?_eq_none (by omega)] at this; cases this
  have HB5 : Hid (Below w.heap.size w w5) := hb5
  have d1 := hc5.c1
  have d2 := hc5.c2
  have d3 := hc5.c3
  clear hown hgr hb5 hc5 hcw hi hz0 hz1 hz2
  go_wp2_with fail
  go_loopw [39] (fun v wr => ∃ k : Nat, k ≤ len ∧ v = .int .i64 k ∧ Own w5 wr (w.heap.size + 1 + 1 + 1 + 1) len (fun x => if x < k then share total all zs x else 0)) (fun v _ => len - (intOf v).toNat)
  case atStart => exact ⟨0, Nat.zero_le _, rfl, HO5.out.congr fun x _ => by simp⟩
  case round =>
    obtain ⟨k, hk, rfl, ho⟩ := hrel
    clear d1 d2 d3
    by_cases hlt : k < len
    · obtain ⟨d1, d2, d3, hz, hrow⟩ := HCW.out wr _ ho
      rcases hrow with h | ⟨b, off, rfl, hcell⟩
      · omega
      have ck := hcell k hlt
      have c1 := ho.cell (i := k) hlt
      have f1 := ho.frozen k
      have hzk := HW.out (zs.getD k 0) (by simp [List.getD, List.getElem?_eq_getElem (show k < zs.length by omega)])
      have hp := prod_bd total (zs.getD k 0) _ _ t0 t1 hzk.1 hzk.2
      have HS : Hid (Own w5 (wr.setCell ⟨w.heap.size + 1 + 1 + 1 + 1, k, none⟩ (.int .i64 (total * zs.getD k 0 / all))) (w.heap.size + 1 + 1 + 1 + 1) len (fun x => if x < k + 1 then share total all zs x else 0)) := (ho.set k _).congr fun x _ => by
        unfold upd
        by_cases e : x = k
        · subst e; simp [share]
        · rw [if_neg e]
          show (if x < k then share total all zs x else 0) = _
          by_cases e2 : x < k
          · rw [if_pos e2, if_pos (by omega)]
          · rw [if_neg e2, if_neg (by omega)]
      clear ho hcell hzk hz
      generalize zs.getD k 0 = y at *
      obtain ⟨p1, p2⟩ := hp
      go_wp2_with fail
      go_roundw
      case rel => exact ⟨k + 1, by omega, by go_num, HS.out⟩
      case measure => simp [intOf]; omega
    · have ho2 : Own w5 wr (w.heap.size + 1 + 1 + 1 + 1) len (share total all zs) := ho.congr fun x hx => by rw [if_pos (by omega)]
      have hc2 := HCW.out wr _ ho2
      have HO2 : Hid (Own w5 wr (w.heap.size + 1 + 1 + 1 + 1) len (share total all zs)) := ho2
      have HC2 : Hid (Caps wr w.heap.size (w.heap.size + 1) (w.heap.size + 1 + 1 + 1) total all a len cap zs) := hc2
      have d1 := hc2.c1
      have d2 := hc2.c2
      have d3 := hc2.c3
      clear ho ho2 hc2
      go_wp2_with fail
      have HSL : Hid (∀ w2, Below wr.heap.size wr w2 → Row w2 (some ⟨w.heap.size + 1 + 1 + 1 + 1, 0, none⟩) len (shares total all zs len)) := by
        intro w2 hb
        refine ⟨by simp [shares], .inr ⟨_, _, rfl, fun i hi => ?_⟩⟩
        have hcl := HO2.out.cell hi
        rw [Nat.zero_add, hb.cell (block_lt hcl), hcl]
        simp [shares, List.getD, hi]
      have HBS : Hid (∀ z ∈ shares total all zs len, -1000000000000 ≤ z ∧ z ≤ 1000000000000) := by
        intro z hz
        obtain ⟨k, hk, rfl⟩ := List.mem_map.1 hz
        have hb := share_bd (k := k) HF.out HZA.out (by simpa [hlz] using hk)
        omega
      have HMO : Hid (Calls Try.prog 22 #[.int .i64 len, lostV w.heap.size (w.heap.size + 1) (w.heap.size + 1 + 1 + 1)] wr.drew fun e w' => MostPost wr.drew len (lost total all zs) e w') := most_any (caps_drew HC2.out) HF.out
      have HDR : Hid (∀ w2, Below wr.drew.heap.size wr.drew w2 → Below wr.heap.size wr w2) := fun w2 h => ((Below.refl _ _).drew).trans h
      obtain ⟨L, hL⟩ := Int.eq_ofNat_of_zero_le hl0
      have hLl : L ≤ len := by omega
      have HSUM : Hid ((shares total all zs len).sum = total - (L : Int)) := by show _ = _; unfold leftOf at hL; omega
      have HLN : Hid ((leftOf total all zs len).toNat = L) := by show _ = _; omega
      clear hL
      have hw1 : IntKind.i64.wrap (total - (total - (L : Int))) = (L : Int) := by rw [IntKind.wrap_i64]; omega
      have hw2 : IntKind.i64.wrap (L : Int) = (L : Int) := by rw [IntKind.wrap_i64]; omega
      have hw3 : (L : Int) ≤ (len : Int) := by omega
      have hne0 : ¬ len = 0 := by omega
      go_cut [62, 63, 64] (fun v62 v63 v64 wc => ∃ g f, v62 = .slice (some ⟨g, 0, none⟩) L len ∧ v63 = .int .i64 L ∧ v64 = .int .i64 0 ∧ Below wr.heap.size wr wc ∧ wr.heap.size ≤ g ∧ (∀ i, i < len → wc.cell? ⟨g, i, none⟩ = some (.int .i64 (f i))) ∧ Mix idz f 0 len ∧ Srt (lost total all zs) f 0 len)
      case first =>
        go_region_with (first
          | (go_at_call 22; refine HMO.out.mono ?_; rintro e w2 ⟨g, f, rfl, m1, m2, m3, m4, m5, m6⟩; have k1 : w2.cell? ⟨w.heap.size, 0, none⟩ = some (.int .i64 total) := (m3.cell (block_lt HC2.out.c1)).trans HC2.out.c1; have HM3 : Hid (Below wr.heap.size wr w2) := HDR.out w2 m3; have HMM : Hid ((∀ i, i < len → w2.cell? ⟨g, i, none⟩ = some (.int .i64 (f i))) ∧ Mix idz f 0 len ∧ Srt (lost total all zs) f 0 len ∧ wr.heap.size ≤ g) := ⟨m4, m5, m6, m1⟩; clear m1 m2 m3 m4 m5 m6)
          | (go_at_call 20; refine (add_any _ _ _ (shares total all zs len) _ (HSL.out _ HM3.out) h1 HBS.out).mono ?_; rintro e w3 ⟨rfl, rfl⟩; rw [HSUM.out]))
        all_goals
          go_wp2_with fail
          go_meet
          case rel => exact ⟨g, f, rfl, rfl, rfl, HM3.out, HMM.out.2.2.2, HMM.out.1, HMM.out.2.1, HMM.out.2.2.1⟩
      case rest =>
        obtain ⟨g, f, rfl, rfl, rfl, hbc, hg, hpl, hmx, hst⟩ := hcut
        have hgw : w.heap.size + 1 + 1 + 1 + 1 < wr.heap.size := by rw [HO2.out.size]; exact hsz5
        have HO3 : Hid (Own wc wc (w.heap.size + 1 + 1 + 1 + 1) len (share total all zs)) := ⟨rfl, rfl, rfl, rfl, fun _ _ => rfl, by rw [hbc.block _ hgw]; exact HO2.out.row⟩
        have HI0 : Hid (In0 len f) := in0_of hmx
        have HPL : Hid (∀ w' : World, (∀ k, k ≠ w.heap.size + 1 + 1 + 1 + 1 → w'.heap[k]? = wc.heap[k]?) → ∀ i, i < len → w'.cell? ⟨g, i, none⟩ = some (.int .i64 (f i))) := by
          intro w' hw i hi
          rw [World.cell?_of_block (w := wc) (a := ⟨g, i, none⟩) (hw g (by omega))]
          exact hpl i hi
        have HMX : Hid (Mix idz f 0 len) := hmx
        have HST : Hid (Srt (lost total all zs) f 0 len) := hst
        have hbw : Below w.heap.size w wc := (HB5.out.trans ⟨HO2.out.os, HO2.out.tape, HO2.out.output, by rw [HO2.out.size]; exact Nat.le_refl _, fun k hk => HO2.out.other k (by omega)⟩).trans (hbc.mono (by omega))
        have HBW : Hid (Below w.heap.size w wc) := hbw
        clear hbc hpl hmx hst hbw d1 d2 d3
        go_wp2_with fail
        go_loopw [64] (fun v wr => ∃ t : Nat, t ≤ L ∧ v = .int .i64 t ∧ Own wc wr (w.heap.size + 1 + 1 + 1 + 1) len (fun x => share total all zs x + bump f t x)) (fun v _ => L - (intOf v).toNat)
        case atStart => exact ⟨0, Nat.zero_le _, rfl, HO3.out.congr fun x _ => by simp [bump]⟩
        case round =>
          obtain ⟨t, ht, rfl, ho⟩ := hrel
          by_cases hlt : t < L
          · have hp := HPL.out wr ho.other t (by omega)
            have hin := HI0.out t (by omega)
            obtain ⟨q, hq⟩ := Int.eq_ofNat_of_zero_le hin.1
            rw [hq] at hp
            have hql : q < len := by omega
            have c1 := ho.cell (i := q) hql
            have f1 := ho.frozen q
            have hb1 := share_bd (k := q) HF.out HZA.out (by omega)
            have hb2 := bump_bd f t q
            have HS : Hid (Own wc (wr.setCell ⟨w.heap.size + 1 + 1 + 1 + 1, q, none⟩ (.int .i64 (share total all zs q + bump f t q + 1))) (w.heap.size + 1 + 1 + 1 + 1) len (fun x => share total all zs x + bump f (t + 1) x)) := (ho.set q _).congr fun x _ => by
              unfold upd
              simp only [bump]
              by_cases e : x = q
              · subst e; rw [if_pos rfl, if_pos hq]; omega
              · rw [if_neg e, if_neg (by rw [hq]; omega)]; omega
            clear ho hq hin
            generalize share total all zs q = sq at *
            generalize bump f t q = bq at *
            obtain ⟨s1, s2⟩ := hb1
            obtain ⟨s3, s4⟩ := hb2
            go_wp2_with fail
            go_roundw
            case rel => exact ⟨t + 1, by omega, by go_num, HS.out⟩
            case measure => simp [intOf]; omega
          · have HP : Hid (DealPost w total all zs len (.returned (.tuple #[.slice (some ⟨w.heap.size + 1 + 1 + 1 + 1, 0, none⟩) len len, .int .i64 0])) wr) := by
              refine ⟨_, f, rfl, HBW.out.trans ⟨ho.os, ho.tape, ho.output, by rw [ho.size]; exact Nat.le_refl _, fun k hk => ho.other k (by omega)⟩, by omega, HMX.out, HST.out, fun i hi => ?_⟩
              rw [HLN.out, show L = t by omega]
              exact ho.cell hi
            clear ho
            go_wp2_with fail
            go_ret2
            exact HP.out

end Go.Proofs.Ytipihacnkiijaaa.cents
