/- A text may be keyed in pieces: the walk. -/
import Derived.Test.YtkobdkkgkpgcbaaDoorKpPieN
namespace Go.Proofs.YtkobdkkgkpgcbaaDoor.pieces
open Go.RowKit
open keypad
set_option linter.unusedSimpArgs false
set_option maxRecDepth 100000

def KPost (W : World) (rs : List Int) (e : Ending) (w' : World) : Prop :=
  ∃ v, e = .returned (.tuple #[v, .agg #[.string (padAll noPad rs).d, .bool (padAll noPad rs).b], .int .i64 0]) ∧ Lies w' W.heap.size v (entAll noPad rs) ∧ Below W.heap.size W w'
theorem keys_of (S : ByteArray) (rs : List Int) (w : World) (hS : runes S.data.toList = rs) (hz : S.size ≤ 2000) (ht : NTab w) :
    Calls Tryd.prog 12 #[.string S] w fun e w' => KPost w rs e w' := by
  have := keys_any S w hz ht
  unfold KeysPost at this
  rw [hS] at this
  exact this
theorem keys_a (ra : List Int) (w : World) (hv : ∀ r ∈ ra, Utf8.valid r = true) (hl : ra.length ≤ 200) (ht : NTab w) :
    Calls Tryd.prog 12 #[.string (runesBytes ra)] w fun e w' => KPost w ra e w' := by
  refine keys_of _ ra w ?_ (by have := runesBytes_size_le ra; omega) ht
  have := runes_enc ra [] hv
  rw [List.append_nil] at this
  rw [runesBytes_list, this]; simp [runes_nil]
theorem keys_ab (ra rb : List Int) (w : World) (hv : ∀ r ∈ ra, Utf8.valid r = true) (hl : ra.length ≤ 200) (hv2 : ∀ r ∈ rb, Utf8.valid r = true) (hl2 : rb.length ≤ 200) (ht : NTab w) :
    Calls Tryd.prog 12 #[.string (runesBytes ra ++ runesBytes rb)] w fun e w' => KPost w (ra ++ rb) e w' := by
  refine keys_of _ (ra ++ rb) w ?_ (by rw [ByteArray.size_append]; have := runesBytes_size_le ra; have := runesBytes_size_le rb; omega) ht
  have := runes_enc rb [] hv2
  rw [List.append_nil] at this
  rw [app_list, runesBytes_list, runesBytes_list, runes_enc ra _ hv, this]; simp [runes_nil]
theorem keys_abe (ra rb : List Int) (w : World) (hv : ∀ r ∈ ra, Utf8.valid r = true) (hl : ra.length ≤ 200) (hv2 : ∀ r ∈ rb, Utf8.valid r = true) (hl2 : rb.length ≤ 200) (ht : NTab w) :
    Calls Tryd.prog 12 #[.string (runesBytes ra ++ runesBytes rb ++ ⟨#[55, 35]⟩)] w fun e w' => ∃ a c m, e = .returned (.tuple #[.slice a m c, .agg #[.string ⟨#[]⟩, .bool false], .int .i64 0]) ∧ m = (entAll noPad (ra ++ rb)).length + 1 ∧ Below w.heap.size w w' := by
  obtain ⟨S, hS⟩ : ∃ S : ByteArray, S = runesBytes ra ++ runesBytes rb ++ ⟨#[55, 35]⟩ := ⟨_, rfl⟩
  have hL : S.data.toList = encL ra ++ (encL rb ++ [55, 35]) := by rw [hS, app_list, app_list, runesBytes_list, runesBytes_list, List.append_assoc]
  have hz : S.size ≤ 2000 := by
    rw [hS, ByteArray.size_append, ByteArray.size_append]
    have : (⟨#[55, 35]⟩ : ByteArray).size = 2 := rfl
    have := runesBytes_size_le ra; have := runesBytes_size_le rb; omega
  rw [← hS]
  clear hS
  have h7 : runes [55, 35] = [55, 35] := by rw [runes_ascii 55 [35] (by decide), runes_end35]; rfl
  have hR : runes S.data.toList = (ra ++ rb) ++ [55, 35] := by rw [hL, runes_enc ra _ hv, runes_enc rb _ hv2, h7, List.append_assoc]
  refine (keys_of S _ w hR hz ht).mono ?_
  rintro e w' ⟨v, rfl, hLv, hb⟩
  have ha := after7 (padAll noPad (ra ++ rb))
  rw [padAll_app, ha.2]
  rw [entAll_app] at hLv
  obtain ⟨a, c, rfl⟩ : ∃ a c, v = .slice a (entAll noPad (ra ++ rb) ++ entAll (padAll noPad (ra ++ rb)) [55, 35]).length c := by
    rcases hLv.form with ⟨rfl, hn⟩ | ⟨g, c, rfl, _⟩
    · exact ⟨_, _, by rw [hn]; rfl⟩
    · exact ⟨_, _, rfl⟩
  exact ⟨a, c, _, rfl, by rw [List.length_append, ha.1], hb⟩
theorem lies_form {w : World} {base : Nat} {v : Value} {l : List Ent} (h : Lies w base v l) : ∃ a c, v = .slice a l.length c := by
  rcases h.form with ⟨rfl, hn⟩ | ⟨g, c, rfl, _⟩
  · exact ⟨_, _, by rw [hn]; rfl⟩
  · exact ⟨_, _, rfl⟩

set_option maxHeartbeats 4000000 in
theorem walk (a0 : Option Addr) (len0 cap0 : Nat) (xs : List Int) (a1 : Option Addr) (len1 cap1 : Nat) (ys : List Int) (w : World) (hx : RowI w a0 len0 xs) (hy : RowI w a1 len1 ys) (ht : NTab w) :
    Calls Tryd.prog 5 #[.slice a0 len0 cap0, .slice a1 len1 cap1] w fun e w' => e = .returned (.bool true) ∧ Below w.heap.size w w' := by
  have HT : Hid (∀ W, Below w.heap.size w W → NTab W) := fun W hW => ht.below hW
  have HX : Hid (Calls Tryd.prog 14 #[.slice a0 len0 cap0, .int .i64 200] w fun e w' => ChrPost w e w') := characters_any a0 len0 cap0 xs w hx
  have HY : Hid (∀ W, Below w.heap.size w W → Calls Tryd.prog 14 #[.slice a1 len1 cap1, .int .i64 200] W fun e w' => ChrPost W e w') := fun W hW => characters_any a1 len1 cap1 ys W (hy.below hW)
  have hqn : ∀ W, (Op.equalIn 10000 23 (.agg #[.string ⟨#[]⟩, .bool false]) (.agg #[.string ⟨#[]⟩, .bool false])).run Tryd.prog W = .ok true W := fun W => by rw [eqP]; simp
  clear hx hy ht
  go_enter Tryd.func5, Tryd.ntmps5
  go_wp2_with fail
  refine HX.out.mono ?_
  rintro e w1 ⟨va, ra, rfl, hA, hal, hav, hb1⟩
  have HA1 : Hid (Chs w1 w.heap.size va ra) := hA
  have HAV : Hid ((∀ r ∈ ra, Utf8.valid r = true) ∧ ra.length ≤ 200) := ⟨hav, hal⟩
  have HB1 : Hid (Below w.heap.size w w1) := hb1
  clear hA hal hav hb1 HX
  go_wp2_with fail
  refine (HY.out _ HB1.out).mono ?_
  rintro e w2 ⟨vb, rb, rfl, hB, hbl, hbv, hb2⟩
  obtain ⟨ab, cb, rfl, hab⟩ := hB.form
  have HA2 : Hid (Chs w2 w.heap.size va ra) := HA1.out.next hb2
  have HBw : Hid (Chs w2 w1.heap.size (.slice ab rb.length cb) rb) := hB
  have HBV : Hid ((∀ r ∈ rb, Utf8.valid r = true) ∧ rb.length ≤ 200) := ⟨hbv, hbl⟩
  have HB2 : Hid (Below w.heap.size w w2) := bel_step HB1.out hb2
  have HAB : Hid (rb.length = 0 ∨ ∃ g, ab = some ⟨g, 0, none⟩ ∧ w1.heap.size ≤ g) := hab
  have hcva := HA2.out.text
  have HKA : Hid (Calls Tryd.prog 12 #[.string (runesBytes ra)] w2 fun e w' => KPost w2 ra e w') := keys_a ra w2 HAV.out.1 HAV.out.2 (HT.out _ HB2.out)
  clear hB hbl hbv hab hb2 HA1 HY
  go_wp2_with fail
  refine HKA.out.mono ?_
  rintro e w3 ⟨v3, rfl, hL3, hb3⟩
  have HA3 : Hid (Chs w3 w.heap.size va ra) := HA2.out.next hb3
  have HBB3 : Hid (Chs w3 w1.heap.size (.slice ab rb.length cb) rb) := HBw.out.next hb3
  have HB3 : Hid (Below w.heap.size w w3) := bel_step HB2.out hb3
  have HL3 : Hid (Lies w3 w2.heap.size v3 (entAll noPad ra)) := hL3
  have HS23 : Hid (w2.heap.size ≤ w3.heap.size) := hb3.size
  clear hL3 hb3 hcva HKA
  have hcva := (HA3.out.alloc (.cells #[.string (padAll noPad ra).d, .bool (padAll noPad ra).b] 23)).text
  have hcvb := (HBB3.out.alloc (.cells #[.string (padAll noPad ra).d, .bool (padAll noPad ra).b] 23)).text
  have hsab : ¬ 9223372036854775807 < (runesBytes ra).size + (runesBytes rb).size := by have := runesBytes_size_le ra; have := runesBytes_size_le rb; have := HAV.out.2; have := HBV.out.2; omega
  have HBW3 : Hid (Below w.heap.size w (w3.alloc (.cells #[.string (padAll noPad ra).d, .bool (padAll noPad ra).b] 23))) := HB3.out.alloc HB3.out.size _
  have HKB : Hid (Calls Tryd.prog 12 #[.string (runesBytes ra ++ runesBytes rb)] (w3.alloc (.cells #[.string (padAll noPad ra).d, .bool (padAll noPad ra).b] 23)) fun e w' => KPost (w3.alloc (.cells #[.string (padAll noPad ra).d, .bool (padAll noPad ra).b] 23)) (ra ++ rb) e w') := keys_ab ra rb _ HAV.out.1 HAV.out.2 HBV.out.1 HBV.out.2 (HT.out _ HBW3.out)
  have HKE : Hid (∀ W, NTab W → Calls Tryd.prog 12 #[.string (runesBytes ra ++ runesBytes rb ++ ⟨#[55, 35]⟩)] W fun e w' => ∃ a c m, e = .returned (.tuple #[.slice a m c, .agg #[.string ⟨#[]⟩, .bool false], .int .i64 0]) ∧ m = (entAll noPad (ra ++ rb)).length + 1 ∧ Below W.heap.size W w') := fun W hW => keys_abe ra rb W HAV.out.1 HAV.out.2 HBV.out.1 HBV.out.2 hW
  go_wp2_with fail
  refine HKB.out.mono ?_
  rintro e w4 ⟨v4, rfl, hL4, hb4⟩
  have HPS : Hid (Pst w (w4.alloc (.cells #[.string (padAll noPad (ra ++ rb)).d, .bool (padAll noPad (ra ++ rb)).b] 23)) w3.heap.size w4.heap.size va (.slice ab rb.length cb) v4 v3 ra rb 0) := by
    have h3 : (w3.alloc (.cells #[.string (padAll noPad ra).d, .bool (padAll noPad ra).b] 23)).heap.size = w3.heap.size + 1 := by simp
    have hs4 := hb4.size
    have e0 : ra ++ rb.take 0 = ra := by simp
    have hL4' := hL4
    rw [h3] at hL4' hs4
    have hB4 := bel_step HBW3.out hb4
    have l3 := fun k hk => World.ownsRow.lt HL3.out k hk
    have la := fun k hk => World.ownsRow.lt HA2.out k hk
    have lb := fun k hk => World.ownsRow.lt HBw.out k hk
    have l4 := fun k hk => World.ownsRow.lt hL4' k hk
    have hs23 := HS23.out
    refine ⟨hB4.alloc hB4.size _, ?_, Blk.new _ _ _, ((HA3.out.alloc _).next hb4).alloc _, (((HBB3.out.alloc _).next hb4).alloc _).mono HB1.out.size, (hL4'.alloc _).mono (by have := HB3.out.size; omega), ?_, ⟨?_, ?_, ?_, ?_⟩, ⟨?_, by omega⟩, ⟨?_, ?_, ?_⟩, HB3.out.size⟩
    · rw [e0]; exact ((Blk.new w3 _ _).next hb4).alloc _
    · rw [e0]; exact (((HL3.out.alloc _).next hb4).alloc _).mono HB2.out.size
    · intro e; have := (l3 _ e.symm).2; omega
    · intro e; have := (la _ e.symm).2; omega
    · intro e; have := (lb _ e.symm).2; omega
    · intro e; have := (l4 _ e.symm).1; omega
    · intro e; have := (l3 _ e.symm).2; omega
    · intro k h1 h2; have := (l3 _ h1).1; have := (la _ h2).2; omega
    · intro k h1 h2; have := (l3 _ h1).1; have := (lb _ h2).2; omega
    · intro k h1 h2; have := (l3 _ h1).2; have := (l4 _ h2).1; omega
  clear hL4 hb4 hcva hcvb HA3 HBB3 HB3 HL3 HS23 HA2 HBw HBW3 HKB HB2
  generalize w3.heap.size = P at *
  obtain ⟨all, HALL⟩ : ∃ all, Hid (entAll noPad (ra ++ rb) = all) := ⟨_, rfl⟩
  obtain ⟨qq, HQQ⟩ : ∃ qq, Hid (padAll noPad (ra ++ rb) = qq) := ⟨_, rfl⟩
  go_wp2_with fail
  generalize w4.heap.size = Q at *
  go_loopw [7, 13] (fun V i wr => ∃ k : Nat, k ≤ rb.length ∧ i = .int .i64 (k : Int) ∧ Pst w wr P Q va (.slice ab rb.length cb) v4 V ra rb k) (fun _ i _ => rb.length - (intOf i).toNat)
  case atStart => exact ⟨0, Nat.zero_le _, rfl, HPS.out⟩
  case round =>
    obtain ⟨k, hk, rfl, hst⟩ := hrel
    have HST : Hid (Pst w wr P Q va (.slice ab rb.length cb) v4 u7 ra rb k) := hst
    clear HPS
    by_cases hlt : k < rb.length
    · obtain ⟨gb, hgb⟩ : ∃ g, ab = some ⟨g, 0, none⟩ := by
        rcases HAB.out with h | ⟨g, h, _⟩
        · omega
        · exact ⟨g, h⟩
      subst hgb
      obtain ⟨r, HR⟩ : ∃ r, Hid (rb[k]'hlt = r) := ⟨rb[k]'hlt, (rfl : rb[k]'hlt = rb[k]'hlt)⟩
      have hk200 : (k : Int) ≤ 200 := by have := HBV.out.2; omega
      obtain ⟨pp, HPP⟩ : ∃ pp, Hid (padAll noPad (ra ++ rb.take k) = pp) := ⟨_, rfl⟩
      obtain ⟨es, HES⟩ : ∃ es, Hid (entAll noPad (ra ++ rb.take k) = es) := ⟨_, rfl⟩
      obtain ⟨x, HXX⟩ : ∃ x, Hid (pad pp r = x) := ⟨_, rfl⟩
      obtain ⟨ex, HEX⟩ : ∃ ex, Hid (ents pp r = ex) := ⟨_, rfl⟩
      have HLE : Hid (es.length + ex.length ≤ 1000000) := by
        have h1 := entAll_le noPad (ra ++ rb.take k)
        have h2 := ents_le pp r
        rw [HES.out, List.length_append, List.length_take] at h1
        rw [HEX.out] at h2
        have := HAV.out.2; have := HBV.out.2
        show _ ≤ _
        omega
      have HPr : Hid (∀ W, NTab W → Calls Tryd.prog 9 #[.agg #[.string pp.d, .bool pp.b], .int .i32 r] W fun e w' => ∃ v, e = .returned (.tuple #[.agg #[.string x.d, .bool x.b], v, .int .i64 0]) ∧ Lies w' W.heap.size v ex ∧ Below W.heap.size W w') := fun W hW => by
        have hok : pp.ok := by rw [← HPP.out]; exact padAll_ok noPad_ok _
        have := press_any pp r W hok hW
        unfold PressPost Pad.v at this
        rw [HXX.out, HEX.out] at this
        exact this
      have hcb : wr.cell? ⟨gb, k, none⟩ = some (.int .i32 r) := by rw [← HR.out]; exact Chs.at hst.b k hlt
      have hpb : Blk wr P #[.string pp.d, .bool pp.b] 23 := by rw [← HPP.out]; exact hst.pb
      have hqb : Blk wr Q #[.string qq.d, .bool qq.b] 23 := by rw [← HQQ.out]; exact hst.qb
      have hal : Lies wr w.heap.size v4 all := by rw [← HALL.out]; exact hst.al
      have hgo : Lies wr w.heap.size u7 es := by rw [← HES.out]; exact hst.got
      have HM0 : Hid (Mid w wr P Q P va (.slice (some ⟨gb, 0, none⟩) rb.length cb) v4 u7 (.slice none 0 0) ra rb es all [] pp qq pp) := ⟨hst.below, hpb, hqb, hpb, hst.a, hst.b, hal, hgo, Lies.zero _ _, hst.pP.1⟩
      have HCB : Hid (wr.cell? ⟨gb, k, none⟩ = some (.int .i32 r)) := hcb
      have KS : Hid (wr.drew.cell? ⟨P, 0, none⟩ = some (.string pp.d) ∧ wr.drew.cell? ⟨P, 1, none⟩ = some (.bool pp.b) ∧ wr.drew.cell? ⟨gb, k, none⟩ = some (.int .i32 r)) := ⟨hpb.cell 0, hpb.cell 1, hcb⟩
      have hpb0 := hpb.alloc (.cells #[.string ⟨#[]⟩, .bool false] 23)
      have hcb0 : (wr.alloc (.cells #[.string ⟨#[]⟩, .bool false] 23)).cell? ⟨gb, k, none⟩ = some (.int .i32 r) := by rw [World.cell?_alloc_lt wr _ _ (World.block_lt_of_cell? wr _ hcb)]; exact hcb
      have KB : Hid ((wr.alloc (.cells #[.string ⟨#[]⟩, .bool false] 23)).drew.cell? ⟨P, 0, none⟩ = some (.string pp.d) ∧ (wr.alloc (.cells #[.string ⟨#[]⟩, .bool false] 23)).drew.cell? ⟨P, 1, none⟩ = some (.bool pp.b) ∧ (wr.alloc (.cells #[.string ⟨#[]⟩, .bool false] 23)).drew.cell? ⟨gb, k, none⟩ = some (.int .i32 r)) := ⟨hpb0.cell 0, hpb0.cell 1, hcb0⟩
      have HTW : Hid (NTab wr.drew) := HT.out _ (bel_drew1 hst.below)
      have HTB : Hid (NTab (wr.alloc (.cells #[.string ⟨#[]⟩, .bool false] 23)).drew) := HT.out _ (bel_drew1 (hst.below.alloc hst.below.size _))
      clear hst hpb hqb hal hgo hcb hpb0 hcb0
      go_wp2_with fail
      go_region_held (fun v => v.cell? ⟨P, 0, none⟩ = some (.string pp.d) ∧ v.cell? ⟨P, 1, none⟩ = some (.bool pp.b) ∧ v.cell? ⟨gb, k, none⟩ = some (.int .i32 r))
        (first | with_reducible exact KS.out | with_reducible exact KB.out | with_reducible exact K1.out | with_reducible exact K0.out | with_reducible exact K2.out | with_reducible exact K3.out)
        (first
          | (go_at_call 9; with_reducible refine (HPr.out _ HTW.out).mono ?_; rintro e w2 ⟨v2, rfl, hL2, hb2⟩
             have hM := Mid.pressA HM0.out HCB.out hL2 hb2
             have K1 : Hid (w2.cell? ⟨P, 0, none⟩ = some (.string pp.d) ∧ w2.cell? ⟨P, 1, none⟩ = some (.bool pp.b) ∧ w2.cell? ⟨gb, k, none⟩ = some (.int .i32 r)) := hM.1
             have K0 : Hid ((w2.alloc (.cells #[.string ⟨#[]⟩, .bool false] 23)).cell? ⟨P, 0, none⟩ = some (.string pp.d) ∧ (w2.alloc (.cells #[.string ⟨#[]⟩, .bool false] 23)).cell? ⟨P, 1, none⟩ = some (.bool pp.b) ∧ (w2.alloc (.cells #[.string ⟨#[]⟩, .bool false] 23)).cell? ⟨gb, k, none⟩ = some (.int .i32 r)) := hM.2.1 _
             have K2 : Hid ((w2.alloc (.cells #[.string x.d, .bool x.b] 23)).cell? ⟨P, 0, none⟩ = some (.string pp.d) ∧ (w2.alloc (.cells #[.string x.d, .bool x.b] 23)).cell? ⟨P, 1, none⟩ = some (.bool pp.b) ∧ (w2.alloc (.cells #[.string x.d, .bool x.b] 23)).cell? ⟨gb, k, none⟩ = some (.int .i32 r)) := hM.2.1 _
             have HF : Hid (Mid w (w2.alloc (.cells #[.string x.d, .bool x.b] 23)) P Q w2.heap.size va (.slice (some ⟨gb, 0, none⟩) rb.length cb) v4 u7 v2 ra rb es all ex pp qq x) := hM.2.2 x
             clear hM hL2 hb2)
          | (go_at_call 9; with_reducible refine (HPr.out _ HTB.out).mono ?_; rintro e w2 ⟨v2, rfl, hL2, hb2⟩
             have hM := Mid.pressB HM0.out HCB.out hL2 hb2
             have K1 : Hid (w2.cell? ⟨P, 0, none⟩ = some (.string pp.d) ∧ w2.cell? ⟨P, 1, none⟩ = some (.bool pp.b) ∧ w2.cell? ⟨gb, k, none⟩ = some (.int .i32 r)) := hM.1
             have K3 : Hid ((setP w2 wr.heap.size x.d x.b).cell? ⟨P, 0, none⟩ = some (.string pp.d) ∧ (setP w2 wr.heap.size x.d x.b).cell? ⟨P, 1, none⟩ = some (.bool pp.b) ∧ (setP w2 wr.heap.size x.d x.b).cell? ⟨gb, k, none⟩ = some (.int .i32 r)) := hM.2.1 x
             have t0 := hM.2.2.2.cell 0
             have t1 := hM.2.2.2.cell 1
             have f0 := hM.2.2.2.free 0
             have f1 := hM.2.2.2.free 1
             have HF : Hid (Mid w (setP w2 wr.heap.size x.d x.b) P Q wr.heap.size va (.slice (some ⟨gb, 0, none⟩) rb.length cb) v4 u7 v2 ra rb es all ex pp qq x) := hM.2.2.1 x
             unfold setP at K3 HF
             clear hM hL2 hb2))
      all_goals
        clear HTW HTB KS KB HM0 HCB HPr
        have HSZ : Hid (w.heap.size ≤ _) := HF.out.below.size
        go_wp2_with (first
          | (at_builtin; refine wp_app2 rfl _ _ rfl w.heap.size w.heap.size _ _ es ex rfl rfl HF.out.got HF.out.ex HLE.out HSZ.out ?_)
          | go_in)
        intro v' w5 hL5 hg5 ho5
        have hN5 := grown_blkN hg5 HF.out.nb HF.out.nV
        have hP5 := grown_blkN hg5 HF.out.pb HST.out.pP.1
        have n0 := hN5.cell 0
        have n1 := hN5.cell 1
        have s0 := hP5.cell 0
        have s1 := hP5.cell 1
        have s2 := hP5.free 0
        have s3 := hP5.free 1
        have HK : Hid (Pst w (setP w5 P x.d x.b) P Q va (.slice (some ⟨gb, 0, none⟩) rb.length cb) v4 v' ra rb (k + 1)) := by
          have hF := HF.out
          have hS := HST.out
          obtain rfl := HPP.out
          obtain rfl := HES.out
          obtain rfl := HQQ.out
          obtain rfl := HALL.out
          exact Pst.next hS hlt hF (by rw [← HXX.out, ← HR.out]) (by rw [← HEX.out, ← HR.out]) hL5 hg5 (by first | simpa using ho5 | simpa [World.setCell] using ho5)
        unfold setP at HK
        clear hL5 hg5 ho5 hN5 hP5 HF HST HSZ HLE
        go_wp2_with fail
        go_roundw
        case rel => exact ⟨k + 1, by omega, by go_num, HK.out⟩
        case measure => simp [intOf]; omega
    · have hkk : k = rb.length := by omega
      have eT : ra ++ rb.take k = ra ++ rb := by rw [hkk, List.take_length]
      have hpb : Blk wr P #[.string qq.d, .bool qq.b] 23 := by have := hst.pb; rwa [eT, HQQ.out] at this
      have hqb : Blk wr Q #[.string qq.d, .bool qq.b] 23 := by have := hst.qb; rwa [HQQ.out] at this
      have hal : Lies wr w.heap.size v4 all := by have := hst.al; rwa [HALL.out] at this
      have hgo : Lies wr w.heap.size u7 all := by have := hst.got; rwa [eT, HALL.out] at this
      have hlen : all.length ≤ 400 := by
        have h1 := entAll_le noPad (ra ++ rb)
        rw [HALL.out, List.length_append] at h1
        have := HAV.out.2; have := HBV.out.2
        omega
      have hcva := hst.a.text
      have hcvb := hst.b.text
      have HB7 : Hid (Below w.heap.size w wr) := hst.below
      obtain ⟨a4, c4, rfl⟩ := lies_form hal
      have hs3 : ¬ 9223372036854775807 < (runesBytes ra).size + (runesBytes rb).size + 2 := by have := runesBytes_size_le ra; have := runesBytes_size_le rb; have := HAV.out.2; have := HBV.out.2; omega
      have hq2 : ∀ W, (Op.equalIn 10000 23 (.agg #[.string qq.d, .bool qq.b]) (.agg #[.string qq.d, .bool qq.b])).run Tryd.prog W = .ok true W := fun W => by rw [eqP]; simp
      have HPB : Hid (Blk wr P #[.string qq.d, .bool qq.b] 23) := hpb
      have HQB : Hid (Blk wr Q #[.string qq.d, .bool qq.b] 23) := hqb
      have HAL : Hid (Lies wr w.heap.size (.slice a4 all.length c4) all) := hal
      have HGO : Hid (Lies wr w.heap.size u7 all) := hgo
      have HLN : Hid (all.length ≤ 400) := hlen
      have HKE2 : Hid (Calls Tryd.prog 12 #[.string (runesBytes ra ++ runesBytes rb ++ ⟨#[55, 35]⟩)] wr fun e w' => ∃ a c m, e = .returned (.tuple #[.slice a m c, .agg #[.string ⟨#[]⟩, .bool false], .int .i64 0]) ∧ m = all.length + 1 ∧ Below wr.heap.size wr w') := by
        have := HKE.out wr (HT.out _ hst.below)
        rwa [HALL.out] at this
      clear hst HST hpb hqb hal hgo eT HKE HT hkk
      generalize runesBytes ra = A at *
      generalize runesBytes rb = B at *
      go_wp2_with fail
      refine HKE2.out.mono ?_
      rintro e w6 ⟨a6, c6, m6, rfl, hm6, hb6⟩
      have hB6 : Below w.heap.size w w6 := bel_step HB7.out hb6
      have hP6 := (HPB.out.next hb6).alloc (.cells #[.string ⟨#[]⟩, .bool false] 23)
      have hQ6 := (HQB.out.next hb6).alloc (.cells #[.string ⟨#[]⟩, .bool false] 23)
      have hN6 := Blk.new w6 #[.string ⟨#[]⟩, .bool false] 23
      have p0 := hP6.cell 0
      have p1 := hP6.cell 1
      have q0 := hQ6.cell 0
      have q1 := hQ6.cell 1
      have o0 := hN6.cell 0
      have o1 := hN6.cell 1
      have HB6 : Hid (Below w.heap.size w (w6.alloc (.cells #[.string ⟨#[]⟩, .bool false] 23))) := hB6.alloc hB6.size _
      have HAL6 : Hid (Lies (w6.alloc (.cells #[.string ⟨#[]⟩, .bool false] 23)) w.heap.size (.slice a4 all.length c4) all) := (HAL.out.next hb6).alloc _
      have HGO6 : Hid (Lies (w6.alloc (.cells #[.string ⟨#[]⟩, .bool false] 23)) w.heap.size u7 all) := (HGO.out.next hb6).alloc _
      have hne : ((m6 : Int) != (all.length : Int) + 1) = false := by rw [hm6]; simp
      have hw64 : wrap64 ((all.length : Int) + 1) = (all.length : Int) + 1 := by unfold wrap64; omega
      clear hB6 hP6 hQ6 hN6 hb6 hm6 HPB HQB HAL HGO HB7 HKE2 hcva hcvb
      have HSM : Hid (Calls Tryd.prog 15 #[u7, .slice a4 all.length c4] (w6.alloc (.cells #[.string ⟨#[]⟩, .bool false] 23)) fun e w' => e = .returned (.bool true) ∧ Below (w6.alloc (.cells #[.string ⟨#[]⟩, .bool false] 23)).heap.size (w6.alloc (.cells #[.string ⟨#[]⟩, .bool false] 23)) w') := same_keep _ _ all _ _ _ HGO6.out HAL6.out (by have := HLN.out; omega)
      clear HGO6 HAL6
      go_wp2_with fail
      refine HSM.out.mono ?_
      rintro e w7 ⟨rfl, hb7⟩
      have HB8 : Hid (Below w.heap.size w w7) := bel_step HB6.out hb7
      clear hb7
      go_wp2_with fail
      go_ret
      exact ⟨rfl, HB8.out⟩

end Go.Proofs.YtkobdkkgkpgcbaaDoor.pieces
