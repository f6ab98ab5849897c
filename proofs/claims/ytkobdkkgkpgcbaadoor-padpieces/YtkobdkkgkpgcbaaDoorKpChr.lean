/- Characters that the statements draw, and the texts that they make. -/
import Derived.Test.YtkobdkkgkpgcbaaDoorKpScr
import Derived.Test.YtkobdkkgkpgcbaaDoorCkNum
import Derived.Laws.Cover4
namespace Go.Proofs.YtkobdkkgkpgcbaaDoor.keypad
open Go.Proofs.YtkobdkkgkpgcbaaDoor.check
open Go.RowKit
set_option linter.unusedSimpArgs false
set_option maxRecDepth 100000

/-- The slice a, len, cap reads as the numbers zs: its elements alone. -/
def RowI (w : World) (a : Option Addr) (len : Nat) (zs : List Int) : Prop :=
  zs.length = len ∧ (∀ z ∈ zs, (Lit.int .i64 z).wf = true) ∧ (len = 0 ∨ ∃ b off, a = some ⟨b, off, none⟩ ∧ ∀ i, i < len → w.cell? ⟨b, off + i, none⟩ = some (.int .i64 (zs.getD i 0)))
theorem rowI_of {w : World} {a : Option Addr} {len cap : Nat} {zs : List Int}
    (h : (a = none ∧ len = 0 ∧ cap = 0 ∧ zs = []) ∨ ∃ x, a = some x ∧ len ≤ cap ∧ cap ≤ maxLen ∧ zs.length = cap ∧ (∀ i, i < zs.length → w.cell? (x.add i) = some (.int .i64 (zs.getD i 0))) ∧ ∀ n ∈ zs, (Lit.int .i64 n).wf = true) :
    RowI w a len (zs.take len) ∧ len ≤ maxLen := by
  rcases h with ⟨rfl, rfl, rfl, rfl⟩ | ⟨x, rfl, h1, h2, h3, h4, h5⟩
  · exact ⟨⟨rfl, fun z hz => by simp at hz, .inl rfl⟩, Nat.zero_le _⟩
  · refine ⟨⟨by rw [List.length_take]; omega, fun z hz => h5 z (List.mem_of_mem_take hz), ?_⟩, by omega⟩
    by_cases h0 : len = 0
    · exact .inl h0
    · refine .inr ?_
      obtain ⟨b, off, spot⟩ := x
      have hs : spot = none := by simpa [Addr.add] using World.cell?_spot (h4 0 (by omega))
      subst hs
      refine ⟨b, off, rfl, fun i hi => ?_⟩
      have := h4 i (by omega)
      rw [Addr.add_lit] at this
      rw [this]
      congr 2
      simp [hi]
theorem RowI.below {w w' : World} {a : Option Addr} {n : Nat} {zs : List Int} (h : RowI w a n zs) (hb : Below w.heap.size w w') : RowI w' a n zs := by
  refine ⟨h.1, h.2.1, ?_⟩
  rcases h.2.2 with h0 | ⟨b, off, rfl, hc⟩
  · exact .inl h0
  · refine .inr ⟨b, off, rfl, fun i hi => ?_⟩
    have h1 := hc i hi
    rw [hb.cell (p := ⟨b, off + i, none⟩) (World.block_lt_of_cell? w _ h1)]
    exact h1

/-- A slice of characters that nobody else holds. -/
def Chs (w : World) (base : Nat) (v : Value) (rs : List Int) : Prop := w.ownsRow base 21 1 v rs.length (rs.map (.int .i32))
theorem Chs.zero (w : World) (base : Nat) : Chs w base (.slice none 0 0) [] := World.ownsRow_nil _ _ _ _
theorem Chs.next {w w' : World} {base : Nat} {v : Value} {l : List Int} (h : Chs w base v l) (hb : Below w.heap.size w w') : Chs w' base v l := by
  refine ⟨h.1, ?_⟩
  rcases h.2 with hn | ⟨g, cap, cur, hv, hg, hc, rest⟩
  · exact .inl hn
  · exact .inr ⟨g, cap, cur, hv, hg, Blk.next hc hb, rest⟩
theorem Chs.alloc {w : World} {base : Nat} {v : Value} {l : List Int} (h : Chs w base v l) (o : Obj) : Chs (w.alloc o) base v l := World.ownsRow.alloc h o
theorem Chs.text {w : World} {base : Nat} {v : Value} {rs : List Int} (h : Chs w base v rs) :
    (convert 34 9 v).run Tryd.prog w = .ok (.string (runesBytes rs)) w := by
  rcases h.2 with ⟨rfl, hn⟩ | ⟨g, cap, cur, rfl, _, hc, _⟩
  · have : rs = [] := List.eq_nil_of_length_eq_zero hn
    subst this
    exact run_convert_runes_nil w _ _ _ 0 0 Tryd.underlying34 Tryd.underlying21 Tryd.underlying9
  · have := run_convert_runes (P := Tryd.prog) w 34 9 21 ⟨g, 0, none⟩ rs.length cap rs (Nat.le_refl _) Tryd.underlying34 Tryd.underlying21 Tryd.underlying9 (fun j hj => by
      exact World.ownsRow.cells h (g := g) rfl j (.int .i32 (rs.getD j 0)) (by simp [List.getElem?_eq_getElem hj, List.getD]))
    rw [List.take_length] at this
    exact this
theorem Chs.form {w : World} {base : Nat} {v : Value} {l : List Int} (h : Chs w base v l) : ∃ a cap, v = .slice a l.length cap ∧ (l.length = 0 ∨ ∃ g, a = some ⟨g, 0, none⟩ ∧ base ≤ g) := by
  rcases h.2 with ⟨hv, hn⟩ | ⟨g, cap, cur, hv, hg, _⟩
  · exact ⟨none, 0, by rw [hn]; exact hv, .inl hn⟩
  · exact ⟨_, cap, hv, .inr ⟨g, rfl, hg⟩⟩
theorem Chs.at {w : World} {base g cap : Nat} {l : List Int} (h : Chs w base (.slice (some ⟨g, 0, none⟩) l.length cap) l) (k : Nat) (hk : k < l.length) : w.cell? ⟨g, k, none⟩ = some (.int .i32 (l[k])) := by
  have := World.ownsRow.cellAt h k (by omega)
  rw [this]; simp [hk]
theorem info_i32 : (Tryd.prog.info? 21).map (fun i => (i.zero, i.size, i.bytes)) = some (some (.int .i32 0), 1, 4) := by kernel_rfl

theorem Chs.far {w : World} {base : Nat} {v : Value} {l : List Int} (h : Chs w base v l) {G : Nat} (hG : G < base) : some G ≠ v.ownBlock := by
  intro e
  have := (World.ownsRow.lt h G e.symm).1
  omega
theorem chs_bel {w0 w w' : World} {base B : Nat} {v : Value} {l : List Int} (h : Chs w base v l) (hg : w.grownBy w' v.ownBlock) (hb : Below B w0 w) (hB : B ≤ base) (hw : B ≤ w.heap.size) : Below B w0 w' := by
  refine ⟨hg.os.trans hb.os, hg.tape.trans hb.tape, hg.output.trans hb.output, Nat.le_trans hb.size hg.size, fun k hk => ?_⟩
  rw [← hb.block k hk]
  exact hg.block k (by omega) (h.far (by omega))
/-- One character is put behind the others. -/
theorem wp_chr {w : World} {ops : Array Oper} {rest : List Oper} {o : Oper} {a : Act} {Q : Exit → Act → World → Prop} (hgd : o.guard = none) (s x : Operand)
    (ho : o.op = .call { callee := .builtin .append, args := #[s, x], argTypes := #[34, 34] })
    (base G : Nat) (v : Value) (l : List Int) (r : Int) (hs : a.eval s = v) (hx : a.eval x = .slice (some ⟨G, 0, none⟩) 1 1) (hv : Chs w base v l) (hu : w.cell? ⟨G, 0, none⟩ = some (.int .i32 r)) (hn : l.length ≤ 1000000) (hbase : base ≤ w.heap.size)
    (h : ∀ v' w', Chs w' base v' (l ++ [r]) → w.grownBy w' v.ownBlock → wpList Tryd.prog ops Q rest (a.put o.dst v') w') : wpList Tryd.prog ops Q (o :: rest) a w := by
  obtain ⟨i0, hi, hz0, hz1, hz2⟩ := info_parts info_i32
  refine wpList_append_own w hgd s x 34 ho base 21 i0 (.int .i32 0) 1 4 Tryd.underlying34 hi hz0 hz1 hz2 rfl (by decide) v l.length (l.map (.int .i32)) hs hv ⟨G, 0, none⟩ 1 1 [.int .i32 r] hx rfl ?_ ?_ (by unfold maxLen; omega) (by omega) hbase ?_
  · intro j u hj
    match j, hj with
    | 0, hj => simp at hj; subst hj; simpa [Addr.add] using hu
  · intro u hu; simp at hu; subst hu; rfl
  intro v' w' h1 h2 _
  refine h v' w' ?_ h2
  unfold Chs
  rw [List.length_append, List.map_append]
  exact h1

theorem character_any (n : Int) (w : World) (hn : (Lit.int .i64 n).wf = true) :
    Calls Tryd.prog 26 #[.int .i64 n] w fun e w' => ∃ r : Int, e = .returned (.int .i32 r) ∧ Utf8.valid r = true ∧ w' = w := by
  have HP : Hid (∀ W, Calls Tryd.prog 18 #[.int .i64 n, .int .i64 1114112] W fun e w' => e = .returned (.int .i64 (pick n 1114112)) ∧ w' = W) := fun W => picked_any n 1114112 W hn (by decide) (by decide)
  have h0 := pick_nonneg n 1114112 (by decide)
  have h1 := pick_lt n 1114112 (by decide)
  clear hn
  generalize pick n 1114112 = c at *
  have hw : IntKind.i32.wrap c = c := by rw [IntKind.wrap_i32]; omega
  by_cases ha : 55296 ≤ c
  · by_cases hb : c < 57344
    · go_enter Tryd.func26, Tryd.ntmps26
      go_wp2_with fail
      refine (HP.out _).mono ?_
      rintro e w1 ⟨rfl, rfl⟩
      go_wp2_with fail
      go_ret
      exact ⟨35, rfl, by decide, rfl⟩
    · have hv : Hid (Utf8.valid c = true) := by show _ = _; simp [Utf8.valid]; omega
      go_enter Tryd.func26, Tryd.ntmps26
      go_wp2_with fail
      refine (HP.out _).mono ?_
      rintro e w1 ⟨rfl, rfl⟩
      go_wp2_with fail
      go_ret
      exact ⟨c, rfl, hv.out, rfl⟩
  · have hv : Hid (Utf8.valid c = true) := by show _ = _; simp [Utf8.valid]; omega
    go_enter Tryd.func26, Tryd.ntmps26
    go_wp2_with fail
    refine (HP.out _).mono ?_
    rintro e w1 ⟨rfl, rfl⟩
    go_wp2_with fail
    go_ret
    exact ⟨c, rfl, hv.out, rfl⟩

/-- Characters were given back, so many at most. -/
def ChrPost (w : World) (e : Ending) (w' : World) : Prop :=
  ∃ (v : Value) (rs : List Int), e = .returned v ∧ Chs w' w.heap.size v rs ∧ rs.length ≤ 200 ∧ (∀ r ∈ rs, Utf8.valid r = true) ∧ Below w.heap.size w w'

set_option maxHeartbeats 1000000 in
theorem characters_any (a : Option Addr) (len cap : Nat) (zs : List Int) (w : World) (hr : RowI w a len zs) :
    Calls Tryd.prog 14 #[.slice a len cap, .int .i64 200] w fun e w' => ChrPost w e w' := by
  obtain ⟨hz, hzw, hr⟩ := hr
  go_enter Tryd.func14, Tryd.ntmps14
  go_wp2_with fail
  go_loopw [5, 6] (fun v i wr => ∃ (k : Nat) (V : Value) (rs : List Int), V = v ∧ k ≤ len ∧ k ≤ 200 ∧ i = .int .i64 (k : Int) ∧ rs.length = k ∧ (∀ r ∈ rs, Utf8.valid r = true) ∧ Chs wr w.heap.size V rs ∧ Below w.heap.size w wr) (fun _ i _ => len - (intOf i).toNat)
  case atStart => exact ⟨0, _, [], rfl, Nat.zero_le _, Nat.zero_le _, rfl, rfl, (fun _ h => by cases h), Chs.zero _ _, Below.refl _ _⟩
  case round =>
    obtain ⟨k, V, rs, hV, hk, hk2, rfl, hrl, hval, hown, hb⟩ := hrel
    subst hV
    have HO : Hid (Chs wr w.heap.size V rs) := hown
    have HV : Hid (∀ r ∈ rs, Utf8.valid r = true) := hval
    have HB : Hid (Below w.heap.size w wr) := hb
    have HRL : Hid (rs.length = k) := hrl
    clear hown hval hrl
    by_cases hgo : k < len ∧ k < 200
    · obtain ⟨hlt, hlt2⟩ := hgo
      rcases hr with h0 | ⟨b, off, rfl, hc⟩
      · omega
      have h1 := hc k hlt
      have hcell : wr.cell? ⟨b, off + k, none⟩ = some (.int .i64 (zs.getD k 0)) := (hb.cell (p := ⟨b, off + k, none⟩) (World.block_lt_of_cell? w _ h1)).trans h1
      have HC : Hid (∀ W, Calls Tryd.prog 26 #[.int .i64 (zs.getD k 0)] W fun e w' => ∃ r : Int, e = .returned (.int .i32 r) ∧ Utf8.valid r = true ∧ w' = W) := fun W => character_any _ W (hzw _ (by simp [List.getD, List.getElem?_eq_getElem (show k < zs.length by omega)]))
      clear hc h1 hzw hb
      generalize zs.getD k 0 = z at *
      go_wp2_with fail
      refine (HC.out _).mono ?_
      rintro e w1 ⟨r, rfl, hvr, rfl⟩
      have HVR : Hid (Utf8.valid r = true) := hvr
      clear hvr hcell
      have hG := (Blk.new w1 #[.int .i32 r] 21).cell 0
      have HG : Hid ((w1.alloc (.cells #[.int .i32 r] 21)).cell? ⟨w1.heap.size, 0, none⟩ = some (.int .i32 r)) := hG
      have HOA : Hid (Chs (w1.alloc (.cells #[.int .i32 r] 21)) w.heap.size V rs) := HO.out.alloc _
      have HSZ : Hid (w.heap.size ≤ (w1.alloc (.cells #[.int .i32 r] 21)).heap.size) := by have := HB.out.size; show _ ≤ _; simp; omega
      clear hG
      go_wp2_with (first
        | (at_builtin; refine wp_chr rfl _ _ rfl w.heap.size w1.heap.size _ rs r rfl rfl HOA.out HG.out (by have := HRL.out; omega) HSZ.out ?_)
        | go_in)
      intro v' w4 hL4 hg4
      have HL4 : Hid (Chs w4 w.heap.size v' (rs ++ [r])) := hL4
      have HB4 : Hid (Below w.heap.size w w4) := chs_bel HOA.out hg4 (HB.out.alloc HB.out.size _) (Nat.le_refl _) HSZ.out
      clear hL4 hg4 HOA HO HB HG HSZ
      go_wp2_with fail
      go_roundw
      case rel =>
        refine ⟨k + 1, _, rs ++ [r], rfl, by omega, by omega, by go_num, by rw [List.length_append, HRL.out]; rfl, ?_, HL4.out, HB4.out⟩
        intro x hx
        rcases List.mem_append.1 hx with h | h
        · exact HV.out x h
        · simp at h; rw [h]; exact HVR.out
      case measure => simp [intOf]; omega
    · clear hr hzw hb
      by_cases hc : k < len
      · have hc2 : ¬ (k : Int) < 200 := by omega
        go_wp2_with fail
        go_ret
        exact ⟨V, rs, rfl, HO.out, by rw [HRL.out]; exact hk2, HV.out, HB.out⟩
      · go_wp2_with fail
        go_ret
        exact ⟨V, rs, rfl, HO.out, by rw [HRL.out]; exact hk2, HV.out, HB.out⟩

end Go.Proofs.YtkobdkkgkpgcbaaDoor.keypad
