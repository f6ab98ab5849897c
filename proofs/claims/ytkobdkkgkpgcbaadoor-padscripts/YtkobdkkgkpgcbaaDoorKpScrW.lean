/- In whatever script a digit is keyed: the walk. -/
import Derived.Test.YtkobdkkgkpgcbaaDoorKpChr
namespace Go.Proofs.YtkobdkkgkpgcbaaDoor.scripts
open Go.RowKit
set_option linter.unusedSimpArgs false
set_option maxRecDepth 100000

theorem valid_nt (i d : Nat) (hi : i < 6) (hd : d < 10) : Utf8.valid (keypad.nt i + (d : Int)) = true := by
  match i, hi with
  | 0, _ | 1, _ | 2, _ | 3, _ | 4, _ | 5, _ => simp [keypad.nt, Utf8.valid]; omega
/-- The characters so far: those of the first digits of s. -/
structure Ok (s : ByteArray) (k : Nat) (rs : List Int) : Prop where
  len : rs.length = k
  dig : ∀ r ∈ rs, 0 ≤ keypad.keyD r
  val : ∀ r ∈ rs, Utf8.valid r = true
  key : keypad.keyed rs = s.data.toList.take k
theorem Ok.step {s : ByteArray} {k : Nat} {rs : List Int} (h : Ok s k rs) (hp : k < s.size) (i d : Nat) (hi : i < 6) (hd : d < 10) (he : (s[k]'hp).toNat = d + 48) : Ok s (k + 1) (rs ++ [keypad.nt i + (d : Int)]) := by
  have hk := keypad.keyD_nt i d hi hd
  refine ⟨by rw [List.length_append, h.len]; rfl, ?_, ?_, ?_⟩
  · intro r hr
    rcases List.mem_append.1 hr with h1 | h1
    · exact h.dig r h1
    · simp at h1; rw [h1, hk]; omega
  · intro r hr
    rcases List.mem_append.1 hr with h1 | h1
    · exact h.val r h1
    · simp at h1; rw [h1]; exact valid_nt i d hi hd
  · have e : keypad.keyed (rs ++ [keypad.nt i + (d : Int)]) = keypad.keyed rs ++ [UInt8.ofNat (48 + d)] := by
      simp [keypad.keyed, hk]
    rw [e, h.key, check.take_snoc s k hp]
    congr 2
    rw [show 48 + d = (s[k]'hp).toNat by omega]
    simp
theorem Ok.keys {s : ByteArray} {rs : List Int} (h : Ok s s.size rs) (h1 : 1 ≤ s.size) (h30 : s.size ≤ 30) (w : World) (ht : keypad.NTab w) :
    Calls Tryd.prog 12 #[.string (runesBytes rs ++ ⟨#[35]⟩)] w fun e w' => ∃ g cap, e = .returned (.tuple #[.slice (some ⟨g, 0, none⟩) 1 cap, .agg #[.string ⟨#[]⟩, .bool false], .int .i64 0]) ∧ w'.cell? ⟨g, 0, none⟩ = some (.string s) ∧ w'.cell? ⟨g, 1, none⟩ = some (.int .i64 0) ∧ Below w.heap.size w w' := by
  obtain ⟨S, hS⟩ : ∃ S : ByteArray, S = runesBytes rs ++ ⟨#[35]⟩ := ⟨_, rfl⟩
  have hL : S.data.toList = keypad.encL rs ++ [35] := by rw [hS, keypad.app_list, keypad.runesBytes_list]
  have hz := runesBytes_size_le rs
  have hl := h.len
  have hZ : S.size ≤ 2000 := by
    rw [hS, ByteArray.size_append]
    have : (⟨#[35]⟩ : ByteArray).size = 1 := rfl
    omega
  rw [← hS]
  clear hS
  have hR : keypad.runes S.data.toList = rs ++ [35] := by rw [hL, keypad.runes_enc _ _ h.val, keypad.runes_end35]
  have hk : keypad.keyed rs = s.data.toList := by rw [h.key, ← check.len_eq, List.take_length]
  have hne : rs ≠ [] := by intro e; rw [e] at hl; simp at hl; omega
  exact keypad.keys_plain S s rs w hR hk h.dig hne (by omega) hZ ht

set_option maxHeartbeats 4000000 in
theorem walk (a0 : Option Addr) (len0 cap0 : Nat) (zs : List Int) (a1 : Option Addr) (len1 cap1 : Nat) (ys : List Int) (w : World) (hrow : check.RowB w a0 len0 zs) (hlen : len0 ≤ maxLen) (hr1 : keypad.RowI w a1 len1 ys) (ht : keypad.NTab w) :
    Calls Tryd.prog 7 #[.slice a0 len0 cap0, .slice a1 len1 cap1] w fun e w' => e = .returned (.bool true) ∧ Below w.heap.size w w' := by
  have HT : Hid (∀ W, Below w.heap.size w W → keypad.NTab W) := fun W hW => ht.below hW
  have HN : Hid (Calls Tryd.prog 16 #[.slice a0 len0 cap0, .int .i64 30] w fun e w' => check.NumPost w 30 e w') := check.numerals_any a0 len0 cap0 zs 30 w hrow hlen (by decide) (by decide)
  have hq : ∀ W, (Op.equalIn 10000 23 (.agg #[.string ⟨#[]⟩, .bool false]) (.agg #[.string ⟨#[]⟩, .bool false])).run Tryd.prog W = .ok true W := fun W => by rw [keypad.eqP]; simp
  have HRW : Hid (keypad.RowI w a1 len1 ys) := hr1
  clear ht hrow hlen hr1
  go_enter Tryd.func7, Tryd.ntmps7
  go_wp2_with fail
  refine HN.out.mono ?_
  rintro e w1 ⟨s, rfl, h1, h30, hD, hb1⟩
  have HS1 : Hid (1 ≤ s.size ∧ s.size ≤ 30 ∧ check.allD s.data.toList = true) := ⟨h1, h30, hD⟩
  have HB1 : Hid (Below w.heap.size w w1) := hb1
  clear h1 h30 hD hb1 HN
  go_wp2_with fail
  go_loopw [6, 7] (fun v i wr => ∃ (k : Nat) (V : Value) (rs : List Int), V = v ∧ k ≤ s.size ∧ i = .int .i64 (k : Int) ∧ Ok s k rs ∧ keypad.Chs wr w.heap.size V rs ∧ Below w.heap.size w wr) (fun _ i _ => s.size - (intOf i).toNat)
  case atStart => exact ⟨0, _, [], rfl, Nat.zero_le _, rfl, ⟨rfl, (fun _ h => by cases h), (fun _ h => by cases h), rfl⟩, keypad.Chs.zero _ _, HB1.out⟩
  case round =>
    obtain ⟨k, V, rs, hV, hk, rfl, hok, hown, hb⟩ := hrel
    subst hV
    have HO : Hid (keypad.Chs wr w.heap.size V rs) := hown
    have HB : Hid (Below w.heap.size w wr) := hb
    have HOK : Hid (Ok s k rs) := hok
    clear hown hok
    by_cases hp : k < s.size
    · obtain ⟨d, hd9, hsk⟩ : ∃ d : Nat, d < 10 ∧ (s[k]'hp).toNat = d + 48 := by
        have h2 := (check.take_parts s k hp HS1.out.2.2).2.1
        have h3 := check.isD_bd h2
        exact ⟨(s[k]'hp).toNat - 48, by omega, by omega⟩
      have HST : Hid (∀ i, i < 6 → Ok s (k + 1) (rs ++ [keypad.nt i + (d : Int)])) := fun i hi => HOK.out.step hp i d hi hd9 hsk
      have hrl : rs.length ≤ 1000000 := by have := HOK.out.len; have := HS1.out.2.1; omega
      have HRL : Hid (rs.length ≤ 1000000) := hrl
      have hsi : ((s[k]'hp).toNat : Int) = (d : Int) + 48 := by omega
      have hk30 : (k : Int) ≤ 30 := by have := HS1.out.2.1; omega
      have hs48 : (d : Int) + 48 - 48 = (d : Int) := by omega
      have hwu : IntKind.u8.wrap (d : Int) = (d : Int) := by rw [IntKind.wrap_u8]; omega
      have hwi : IntKind.i32.wrap (d : Int) = (d : Int) := by rw [IntKind.wrap_i32]; omega
      clear hsk hrl
      by_cases hc : k < len1
      · have hrw := HRW.out
        obtain ⟨hyl, hyw, hr⟩ := hrw
        rcases hr with h0 | ⟨b, off, rfl, hcc⟩
        · omega
        have h1 := hcc k hc
        have hcell : wr.cell? ⟨b, off + k, none⟩ = some (.int .i64 (ys.getD k 0)) := (hb.cell (p := ⟨b, off + k, none⟩) (World.block_lt_of_cell? w _ h1)).trans h1
        have HSC : Hid (∀ W, Calls Tryd.prog 17 #[.int .i64 (ys.getD k 0)] W fun e w' => e = .returned (.int .i32 (keypad.nt (keypad.scr (ys.getD k 0)))) ∧ w' = W) := fun W => keypad.script_any _ W (hyw _ (by simp [List.getD, List.getElem?_eq_getElem (show k < ys.length by omega)]))
        have hi := keypad.scr_lt (ys.getD k 0)
        have hbd := keypad.nt_bd _ hi
        have HST2 : Hid (Ok s (k + 1) (rs ++ [keypad.nt (keypad.scr (ys.getD k 0)) + (d : Int)])) := HST.out _ hi
        clear hcc h1 hyw hyl hb hi HST
        generalize keypad.nt (keypad.scr (ys.getD k 0)) = z at *
        generalize ys.getD k 0 = y at *
        obtain ⟨hz1, hz2⟩ := hbd
        have hws : IntKind.i32.wrap (z + (d : Int)) = z + (d : Int) := by rw [IntKind.wrap_i32]; omega
        go_wp2_with fail
        refine (HSC.out _).mono ?_
        rintro e w2 ⟨rfl, rfl⟩
        have hG := (Blk.new w2 #[.int .i32 (z + (d : Int))] 21).cell 0
        have HG : Hid ((w2.alloc (.cells #[.int .i32 (z + (d : Int))] 21)).cell? ⟨w2.heap.size, 0, none⟩ = some (.int .i32 (z + (d : Int)))) := hG
        have HOA : Hid (keypad.Chs (w2.alloc (.cells #[.int .i32 (z + (d : Int))] 21)) w.heap.size V rs) := HO.out.alloc _
        have HSZ : Hid (w.heap.size ≤ (w2.alloc (.cells #[.int .i32 (z + (d : Int))] 21)).heap.size) := by have := HB.out.size; show _ ≤ _; simp; omega
        clear hG hcell
        go_wp2_with (first
          | (at_builtin; refine keypad.wp_chr rfl _ _ rfl w.heap.size w2.heap.size _ rs (z + (d : Int)) rfl rfl HOA.out HG.out HRL.out HSZ.out ?_)
          | go_in)
        intro v' w4 hL4 hg4
        have HL4 : Hid (keypad.Chs w4 w.heap.size v' (rs ++ [z + (d : Int)])) := hL4
        have HB4 : Hid (Below w.heap.size w w4) := keypad.chs_bel HOA.out hg4 (HB.out.alloc HB.out.size _) (Nat.le_refl _) HSZ.out
        clear hL4 hg4 HOA HO HB HG HSZ
        go_wp2_with fail
        go_roundw
        case rel => exact ⟨k + 1, _, _, rfl, by omega, by go_num, HST2.out, HL4.out, HB4.out⟩
        case measure => simp [intOf]; omega
      · have HST2 : Hid (Ok s (k + 1) (rs ++ [48 + (d : Int)])) := HST.out 0 (by decide)
        have hws : IntKind.i32.wrap (48 + (d : Int)) = 48 + (d : Int) := by rw [IntKind.wrap_i32]; omega
        clear hb HST
        have hG := (Blk.new wr #[.int .i32 (48 + (d : Int))] 21).cell 0
        have HG : Hid ((wr.alloc (.cells #[.int .i32 (48 + (d : Int))] 21)).cell? ⟨wr.heap.size, 0, none⟩ = some (.int .i32 (48 + (d : Int)))) := hG
        have HOA : Hid (keypad.Chs (wr.alloc (.cells #[.int .i32 (48 + (d : Int))] 21)) w.heap.size V rs) := HO.out.alloc _
        have HSZ : Hid (w.heap.size ≤ (wr.alloc (.cells #[.int .i32 (48 + (d : Int))] 21)).heap.size) := by have := HB.out.size; show _ ≤ _; simp; omega
        clear hG
        go_wp2_with (first
          | (at_builtin; refine keypad.wp_chr rfl _ _ rfl w.heap.size wr.heap.size _ rs (48 + (d : Int)) rfl rfl HOA.out HG.out HRL.out HSZ.out ?_)
          | go_in)
        intro v' w4 hL4 hg4
        have HL4 : Hid (keypad.Chs w4 w.heap.size v' (rs ++ [48 + (d : Int)])) := hL4
        have HB4 : Hid (Below w.heap.size w w4) := keypad.chs_bel HOA.out hg4 (HB.out.alloc HB.out.size _) (Nat.le_refl _) HSZ.out
        clear hL4 hg4 HOA HO HB HG HSZ
        go_wp2_with fail
        go_roundw
        case rel => exact ⟨k + 1, _, _, rfl, by omega, by go_num, HST2.out, HL4.out, HB4.out⟩
        case measure => simp [intOf]; omega
    · have hks : k = s.size := by omega
      have hK := HOK.out
      rw [hks] at hK
      have HK : Hid (Calls Tryd.prog 12 #[.string (runesBytes rs ++ ⟨#[35]⟩)] wr fun e w' => ∃ g cap, e = .returned (.tuple #[.slice (some ⟨g, 0, none⟩) 1 cap, .agg #[.string ⟨#[]⟩, .bool false], .int .i64 0]) ∧ w'.cell? ⟨g, 0, none⟩ = some (.string s) ∧ w'.cell? ⟨g, 1, none⟩ = some (.int .i64 0) ∧ Below wr.heap.size wr w') := hK.keys HS1.out.1 HS1.out.2.1 wr (HT.out _ hb)
      have hcv := HO.out.text
      have hsz : ¬ 9223372036854775807 < (runesBytes rs).size + 1 := by have := runesBytes_size_le rs; have := hK.len; have := HS1.out.2.1; omega
      have hq2 : ∀ W, (Op.equalIn 10000 40 (.agg #[.string s, .int .i64 0]) (.agg #[.string s, .int .i64 0])).run Tryd.prog W = .ok true W := fun W => by rw [keypad.eqN]; simp
      clear hK hks hb HOK HS1 HT HRW HB1 HO
      generalize runesBytes rs = R at *
      go_wp2_with fail
      refine HK.out.mono ?_
      rintro e w2 ⟨g, cap, rfl, c0, c1, hb2⟩
      have hB2 : Below w.heap.size w w2 := bel_step HB.out hb2
      have c0' : (w2.alloc (.cells #[.string ⟨#[]⟩, .bool false] 23)).cell? ⟨g, 0, none⟩ = some (.string s) := by rw [World.cell?_alloc_lt w2 _ _ (World.block_lt_of_cell? w2 _ c0)]; exact c0
      have c1' : (w2.alloc (.cells #[.string ⟨#[]⟩, .bool false] 23)).cell? ⟨g, 1, none⟩ = some (.int .i64 0) := by rw [World.cell?_alloc_lt w2 _ _ (World.block_lt_of_cell? w2 _ c1)]; exact c1
      have HB2 : Hid (Below w.heap.size w (w2.alloc (.cells #[.string ⟨#[]⟩, .bool false] 23))) := hB2.alloc hB2.size _
      clear hB2 hb2 HB HK c0 c1 hcv
      go_wp2_with fail
      go_ret
      exact ⟨rfl, HB2.out⟩

end Go.Proofs.YtkobdkkgkpgcbaaDoor.scripts
