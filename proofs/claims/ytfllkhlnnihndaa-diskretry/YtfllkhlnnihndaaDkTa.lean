/- tape: records one behind the other. -/
import Derived.Test.YtfllkhlnnihndaaDkPu
import Derived.Test.YtfllkhlnnihndaaDkSo
import Derived.Test.YtfllkhlnnihndaaClBc
import Derived.Test.YtfllkhlnnihndaaDkSt
import Derived.Test.YtfllkhlnnihndaaDkEr
import Derived.OwnWalk
namespace Go.Proofs.Ytfllkhlnnihndaa.disk
open Go.RowKit Go.Proofs.Ytfllkhlnnihndaa.cell
set_option maxRecDepth 100000
set_option linter.unusedVariables false

/-- Where records lie. -/
theorem lr_at {w : World} {base : Nat} {V : Value} {sl : List Sli} {own : Option Nat} {zs : List (List Int)} (h : Lr 22 w base V sl) (hr : Recs w own sl zs) (hm : Room sl) (h0 : 0 < zs.length) :
    ∃ g off cap, V = .slice (some ⟨g, off, none⟩) zs.length cap ∧ g < w.heap.size ∧ ∀ i, i < zs.length → ∃ b o n c, w.cell? ⟨g, off + i, none⟩ = some (.slice (some ⟨b, o, none⟩) n c) ∧ RowU w (some ⟨b, o, none⟩) n (zs.getD i []) ∧ n ≤ c ∧ n ≤ 20 := by
  have hl := hr.1
  obtain ⟨g, cap, hv, _, lg, _, hc⟩ := h.row (by omega)
  refine ⟨g, 0, cap, by rw [← hl]; exact hv, lg, fun i hi => ?_⟩
  obtain ⟨⟨b, o, e, _, _⟩, hrow⟩ := hr.2 i (by omega)
  have hm := hm.at i (by omega)
  have hcc := hc i (by omega)
  rw [Nat.zero_add]
  generalize sl.getD i sl0 = s at *
  obtain ⟨sa, sn, sc⟩ := s
  simp only at e
  subst e
  exact ⟨b, o, sn, sc, hcc, hrow, hm.1, hm.2⟩
/-- What tape made: the words, and the records. -/
structure Taped (w : World) (more : Nat) (a : Option Addr) (n cap : Nat) (V : Value) (c : List Int) (sl : List Sli) (zs : List (List Int)) (w' : World) : Prop where
  size : n = more + sumR zs
  disk : Dsk w' a n cap c
  tape : Tape c zs (sumR zs)
  lr : Lr 22 w' w.heap.size V sl
  recs : Recs w' V.ownBlock sl zs
  room : Room sl
  ok : RecsOk zs
  few : zs.length ≤ 12
  bel : Below w.heap.size w w'
theorem Taped.next {w w1 w2 : World} {more n cap : Nat} {a : Option Addr} {V : Value} {c : List Int} {sl : List Sli} {zs : List (List Int)} (h : Taped w more a n cap V c sl zs w1) (hb : Below w1.heap.size w1 w2) : Taped w more a n cap V c sl zs w2 := ⟨h.size, h.disk.below hb, h.tape, h.lr.next hb, h.recs.below hb, h.room, h.ok, h.few, h.bel.trans (hb.mono h.bel.size)⟩
theorem Taped.reads {w w1 : World} {more n cap : Nat} {a : Option Addr} {V : Value} {c : List Int} {sl : List Sli} {zs : List (List Int)} (h : Taped w more a n cap V c sl zs w1) : ∃ av cv, V = .slice av zs.length cv ∧ Reads w1 av zs.length zs := reads_of h.lr h.recs (fun i hi => by have := (h.room.at i hi).2; omega)
def TapePost (w : World) (more : Nat) (e : Ending) (w' : World) : Prop :=
  (∃ a n cap V c sl zs, e = .returned (.tuple #[.slice a n cap, V, .bool true]) ∧ 1 ≤ n ∧ Taped w more a n cap V c sl zs w') ∨ (more = 0 ∧ e = .returned (.tuple #[.slice none 0 0, .slice none 0 0, .bool false]) ∧ Below w.heap.size w w')
/-- Records as they are gathered. -/
structure Gath (w : World) (V : Value) (sl : List Sli) (zs : List (List Int)) (wr : World) : Prop where
  lr : Lr 22 wr w.heap.size V sl
  recs : Recs wr V.ownBlock sl zs
  room : Room sl
  ok : RecsOk zs
  bel : Below w.heap.size w wr
theorem Gath.next {w wr wr' : World} {V : Value} {sl : List Sli} {zs : List (List Int)} (h : Gath w V sl zs wr) (hb : Below wr.heap.size wr wr') : Gath w V sl zs wr' := ⟨h.lr.next hb, h.recs.below hb, h.room, h.ok, h.bel.trans (hb.mono h.bel.size)⟩
theorem Gath.len {w wr : World} {V : Value} {sl : List Sli} {zs : List (List Int)} (h : Gath w V sl zs wr) : ∃ a cap, V = .slice a zs.length cap := by
  obtain ⟨a, cap, hv⟩ := h.lr.len
  exact ⟨a, cap, by rw [← h.recs.1]; exact hv⟩
theorem own_old {w wr : World} {V : Value} {sl : List Sli} {zs : List (List Int)} (h : Gath w V sl zs wr) : ∀ k, V.ownBlock = some k → k < wr.heap.size := fun k hk => (World.ownsRow.lt h.lr k hk).2
/-- One record more. -/
theorem Gath.snoc {w wr w3 : World} {V v3 : Value} {sl : List Sli} {zs : List (List Int)} {g n cap : Nat} {z : List Int} (h : Gath w V sl zs wr) (hr : RowU wr (some ⟨g, 0, none⟩) n z) (hg : g < wr.heap.size) (hgo : some g ≠ V.ownBlock) (hz : Wds z ∧ 1 ≤ z.length ∧ z.length ≤ 20) (hc : n ≤ cap)
    (h3 : Lr 22 w3 w.heap.size v3 (sl ++ [⟨some ⟨g, 0, none⟩, n, cap⟩])) (hgr : (wr.alloc (.cells #[.slice (some ⟨g, 0, none⟩) n cap] 22)).grownBy w3 V.ownBlock) (ho : v3.ownBlock = V.ownBlock ∨ v3.ownBlock = some (wr.heap.size + 1)) :
    Gath w v3 (sl ++ [⟨some ⟨g, 0, none⟩, n, cap⟩]) (zs ++ [z]) w3 := by
  have hb : Below wr.heap.size wr (wr.alloc (.cells #[.slice (some ⟨g, 0, none⟩) n cap] 22)) := (Below.refl _ _).alloc (Nat.le_refl _) _
  have hl := h.lr.next hb
  refine ⟨h3, ?_, h.room.snoc ⟨hc, by have := hr.1; show n ≤ 20; omega⟩, recsOk_snoc h.ok hz, own_bel hl hgr (h.bel.trans (hb.mono h.bel.size)) (Nat.le_refl _) (Nat.le_trans h.bel.size hb.size)⟩
  refine Recs.grown (Recs.snoc (h.recs.below hb) ⟨⟨g, 0, rfl, Nat.lt_of_lt_of_le hg hb.size, hgo⟩, ?_⟩) hgr (by simpa using ho)
  exact hr.below hb
set_option maxHeartbeats 4000000 in
theorem tape_any (K : KAppend) (a : Option Addr) (len cap more : Nat) (A : Nat → Option Addr) (L C : Nat → Nat) (Z : Nat → List Int) (w : World) (hr : RwsW w a len A L C Z) (hmo : more ≤ 100) :
    Calls Try.prog 17 #[.slice a len cap, .int .i64 (more : Int)] w fun e w' => TapePost w more e w' := by
  have HR : Hid (∀ wr, Below w.heap.size w wr → RwsW wr a len A L C Z) := fun wr hb => hr.below hb
  have HSO : Hid (∀ W a' n' c' z', RowU W a' n' z' → Wds z' → Calls Try.prog 20 #[.slice a' n' c', .int .i64 20] W fun e w' => SomeR W 20 e w') := fun W a' n' c' z' h h' => some_row a' n' c' 20 z' W h h' (by decide) (by decide)
  have HBL : Hid (∀ W n, 1 ≤ n → n ≤ 2048 → Calls Try.prog 30 #[.int .i64 ((n : Nat) : Int)] W fun e w' => GaveC W (List.replicate n 0) 0 e w') := fun W n h1 h2 => blank_cap n W h1 h2
  have HBN : Hid (∀ W, Calls Try.prog 30 #[.int .i64 0] W fun e w' => GaveR W [] 1 e w') := fun W => blank_none 0 W (.inl (by decide))
  have HPU : Hid (∀ W a' n' c' c2 b' o' m' zs k z, Dsk W a' n' c' z → Tape z (zs.take k) (sumR (zs.take k)) → RecsOk zs → k < zs.length → sumR zs ≤ n' → RowU W (some ⟨b', o', none⟩) m' (zs.getD k []) → m' ≤ c2 → Calls Try.prog 22 #[.slice a' n' c', .slice (some ⟨b', o', none⟩) m' c2] W fun e w' => PutPost W n' (wrt z (appW z (sumR (zs.take k)) (zs.getD k []))) e w') := fun W a' n' c' c2 b' o' m' zs k z h ht hok hk hs hrow hc => by
    have hz := recsOk_at hok k hk
    have e1 := sumR_take zs k hk
    have e2 := sumR_le zs (k + 1)
    have e3 := h.row.1
    exact put_any K a' _ n' c' m' c2 _ z _ _ W h hrow (fun h => by cases h) hc hz.1 ht ⟨hz.2.1, by omega⟩ (by omega)
  clear hr K
  go_enter Try.func17, Try.ntmps17
  go_wp2_with fail
  go_loopw [7, 8, 9] (fun v s i wr => ∃ (k : Nat) (V : Value) (sl : List Sli) (zs : List (List Int)) (S : Nat), V = v ∧ k ≤ len ∧ k ≤ 12 ∧ i = .int .i64 (k : Int) ∧ s = .int .i64 (S : Int) ∧ S = more + sumR zs ∧ zs.length = k ∧ Gath w V sl zs wr) (fun _ _ i _ => len - (intOf i).toNat)
  case atStart => exact ⟨0, _, [], [], more, rfl, Nat.zero_le _, Nat.zero_le _, rfl, rfl, rfl, rfl, ⟨Lr.zero _ _ _, Recs.nil _ _, (fun s hs => by cases hs), (fun z hz => by cases hz), Below.refl _ _⟩⟩
  case round =>
    obtain ⟨k, V, sl, zs, S, hV, hk, hk2, rfl, rfl, hS, hzl, hG⟩ := hrel
    subst hV
    have HG : Hid (Gath w V sl zs wr) := hG
    have HS : Hid (S = more + sumR zs) := hS
    have HZL : Hid (zs.length = k) := hzl
    have hsm : S ≤ 500 := by have := sumR_most hG.ok; omega
    have hsn : sl.length ≤ 12 := by have := hG.recs.1; omega
    by_cases hgo : k < len ∧ k < 12
    · obtain ⟨hlt, hlt2⟩ := hgo
      obtain ⟨b, off, rfl, hcell, hrow, hwd⟩ := HR.out wr hG.bel k hlt
      have HSO1 : Hid (Calls Try.prog 20 #[.slice (A k) (L k) (C k), .int .i64 20] wr fun e w' => SomeR wr 20 e w') := HSO.out wr _ _ _ _ hrow hwd
      clear hS hzl hG hrow hwd
      generalize A k = Ak at *
      generalize L k = Lk at *
      generalize C k = Ck at *
      go_wp2_with fail
      refine HSO1.out.mono ?_
      rintro e w2 ⟨g, n2, cap2, z2, rfl, hr2, hg0, hg1, hn1, hn2, hc2, hw2, hb2⟩
      have hG2 := HG.out.next hb2
      have hgo : some g ≠ V.ownBlock := fun e => by have := own_old HG.out g e.symm; omega
      have HLA : Hid (Lr 22 (w2.alloc (.cells #[.slice (some ⟨g, 0, none⟩) n2 cap2] 22)) w.heap.size V sl) := hG2.lr.alloc _
      have HCA : Hid ((w2.alloc (.cells #[.slice (some ⟨g, 0, none⟩) n2 cap2] 22)).cell? ⟨w2.heap.size, 0, none⟩ = some (Sli.v ⟨some ⟨g, 0, none⟩, n2, cap2⟩)) := (Blk.new w2 _ _).cell 0
      have HSZ : Hid (w.heap.size ≤ (w2.alloc (.cells #[.slice (some ⟨g, 0, none⟩) n2 cap2] 22)).heap.size) := alloc_le hG2.bel.size _
      have HZ2 : Hid (z2.length = n2) := hr2.1
      have HGS : Hid (∀ v3 w3, Lr 22 w3 w.heap.size v3 (sl ++ [⟨some ⟨g, 0, none⟩, n2, cap2⟩]) → (w2.alloc (.cells #[.slice (some ⟨g, 0, none⟩) n2 cap2] 22)).grownBy w3 V.ownBlock → (v3.ownBlock = V.ownBlock ∨ v3.ownBlock = some (w2.heap.size + 1)) → Gath w v3 (sl ++ [⟨some ⟨g, 0, none⟩, n2, cap2⟩]) (zs ++ [z2]) w3) := fun v3 w3 q1 q2 q3 => hG2.snoc hr2 hg1 hgo ⟨hw2, by have := hr2.1; omega, by have := hr2.1; omega⟩ hc2 q1 q2 q3
      clear hr2 hg0 hg1 hw2 hb2 hG2 hgo HSO1 HSO hcell HG
      go_wp2_with (first
        | (at_builtin; refine wp_sli sliT rfl _ _ rfl w.heap.size w2.heap.size V sl ⟨some ⟨g, 0, none⟩, n2, cap2⟩ rfl rfl HLA.out HCA.out (by omega) HSZ.out ?_)
        | fail)
      intro v3 w3 h3 hg3 ho3
      have HG3 : Hid (Gath w v3 (sl ++ [⟨some ⟨g, 0, none⟩, n2, cap2⟩]) (zs ++ [z2]) w3) := HGS.out v3 w3 h3 hg3 ho3
      clear h3 hg3 ho3 HLA HCA HSZ HGS
      go_wp2_with fail
      go_roundw
      case rel => exact ⟨k + 1, v3, _, _, S + (n2 + 1), rfl, by omega, by omega, by go_num, by go_num, by rw [sumR_snoc, HS.out, HZ2.out]; omega, by rw [List.length_append, HZL.out]; rfl, HG3.out⟩
      case measure => simp [intOf]; omega
    · clear hS hzl
      obtain ⟨av, cv, rfl⟩ := hG.len
      have hl12 : zs.length ≤ 12 := by rw [HZL.out]; exact hk2
      clear hG
      by_cases g1 : k < len
      · have g2 : ¬ (k : Int) < 12 := by omega
        have g3 : decide ((k : Int) < 12) = false := by simp; omega
        clear hgo
        by_cases h0 : S = 0
        · subst h0
          have hm0 : more = 0 := by have := HS.out; omega
          have HB : Hid (Below w.heap.size w wr) := HG.out.bel
          go_wp2_with fail
          refine (HBN.out _).mono ?_
          rintro e w2 ⟨a2, c2, rfl, _, _, hb2⟩
          have HB2 : Hid (Below w.heap.size w w2) := HB.out.trans (hb2.mono HB.out.size)
          clear hb2 HB
          go_wp2_with fail
          go_ret3
          exact .inr ⟨hm0, rfl, HB2.out⟩
        · have h1 : 1 ≤ S := by omega
          have HB1 : Hid (Calls Try.prog 30 #[.int .i64 (S : Int)] wr fun e w' => GaveC wr (List.replicate S 0) 0 e w') := HBL.out wr S h1 (by omega)
          go_wp2_with fail
          refine HB1.out.mono ?_
          rintro e w2 ⟨a2, c2, rfl, hr2, hn2, hc2, hb2⟩
          rw [List.length_replicate] at hr2 hc2 ⊢
          have HG2 : Hid (Gath w (.slice av zs.length cv) sl zs w2) := HG.out.next hb2
          have HD2 : Hid (Dsk w2 a2 S c2 (List.replicate S 0)) := ⟨hr2, hn2, hc2, wds_zero S⟩
          have HT2 : Hid (Tape (List.replicate S 0) [] 0) := Tape.blank h1 (by omega)
          have hne : ((S : Int) != (S : Int)) = false := by simp
          clear hr2 hn2 hc2 hb2 HG HB1
          go_wp2_with fail
          go_loopw [11, 13] (fun vc i wx => ∃ (j : Nat) (a' : Option Addr) (c' : Nat) (z : List Int), vc = .slice a' S c' ∧ j ≤ zs.length ∧ i = .int .i64 (j : Int) ∧ Dsk wx a' S c' z ∧ Tape z (zs.take j) (sumR (zs.take j)) ∧ Gath w (.slice av zs.length cv) sl zs wx) (fun _ i _ => zs.length - (intOf i).toNat)
          case atStart => exact ⟨0, a2, c2, _, rfl, Nat.zero_le _, rfl, HD2.out, HT2.out, HG2.out⟩
          case round =>
            rename_i wy
            obtain ⟨j, a', c', z, rfl, hj, rfl, hd, ht, hG⟩ := hrel
            have HDJ : Hid (Dsk wr a' S c' z) := hd
            have HTJ : Hid (Tape z (zs.take j) (sumR (zs.take j))) := ht
            have HGJ : Hid (Gath w (.slice av zs.length cv) sl zs wr) := hG
            clear HD2 HT2 HG2
            by_cases hjl : j < zs.length
            · obtain ⟨g, off, cq, hv, lg, hcc⟩ := lr_at hG.lr hG.recs hG.room (by omega)
              injection hv with e1 _ e3
              obtain ⟨b', o', m', c3, hcell, hrow, hmc, hm20⟩ := hcc j hjl
              have HPU1 : Hid (Calls Try.prog 22 #[.slice a' S c', .slice (some ⟨b', o', none⟩) m' c3] wr fun e w' => PutPost wr S (wrt z (appW z (sumR (zs.take j)) (zs.getD j []))) e w') := HPU.out wr a' S c' c3 b' o' m' zs j z hd ht hG.ok hjl (by have := HS.out; omega) hrow hmc
              have HTN : Hid (Tape (wrt z (appW z (sumR (zs.take j)) (zs.getD j []))) (zs.take (j + 1)) (sumR (zs.take (j + 1)))) := by
                have hz := recsOk_at hG.ok j hjl
                have q1 := sumR_take zs j hjl
                have q2 := sumR_le zs (j + 1)
                have q3 := hd.row.1
                have q4 := HS.out
                have := ht.all (r := zs.getD j []) ⟨hz.2.1, by omega⟩ (by omega)
                rw [takeR_one zs j hjl, sumR_snoc]
                exact this
              subst e1
              subst e3
              generalize wrt z (appW z (sumR (zs.take j)) (zs.getD j [])) = zn at *
              clear hcc hrow hd ht hG HPU HDJ HTJ
              go_wp2_with fail
              refine HPU1.out.mono ?_
              rintro e w5 ⟨a5, c5, rfl, hd5, hb5⟩
              have HD5 : Hid (Dsk w5 a5 S c5 zn) := hd5
              have HG5 : Hid (Gath w (.slice (some ⟨g, off, none⟩) zs.length cv) sl zs w5) := HGJ.out.next hb5
              clear hd5 hb5 HPU1 hcell HGJ
              go_wp2_with fail
              go_roundw
              case rel => exact ⟨j + 1, a5, c5, zn, rfl, by omega, by go_num, HD5.out, HTN.out, HG5.out⟩
              case measure => simp [intOf]; omega
            · obtain rfl : j = zs.length := by omega
              have HTE : Hid (Tape z zs (sumR zs)) := by have := HTJ.out; rw [List.take_length] at this; exact this
              clear hd ht hG HTJ
              go_wp2_with fail
              go_ret3
              exact .inl ⟨a', S, c', _, z, sl, zs, rfl, h1, HS.out, HDJ.out, HTE.out, HGJ.out.lr, HGJ.out.recs, HGJ.out.room, HGJ.out.ok, hl12, HGJ.out.bel⟩
      · clear hgo
        by_cases h0 : S = 0
        · subst h0
          have hm0 : more = 0 := by have := HS.out; omega
          have HB : Hid (Below w.heap.size w wr) := HG.out.bel
          go_wp2_with fail
          refine (HBN.out _).mono ?_
          rintro e w2 ⟨a2, c2, rfl, _, _, hb2⟩
          have HB2 : Hid (Below w.heap.size w w2) := HB.out.trans (hb2.mono HB.out.size)
          clear hb2 HB
          go_wp2_with fail
          go_ret3
          exact .inr ⟨hm0, rfl, HB2.out⟩
        · have h1 : 1 ≤ S := by omega
          have HB1 : Hid (Calls Try.prog 30 #[.int .i64 (S : Int)] wr fun e w' => GaveC wr (List.replicate S 0) 0 e w') := HBL.out wr S h1 (by omega)
          go_wp2_with fail
          refine HB1.out.mono ?_
          rintro e w2 ⟨a2, c2, rfl, hr2, hn2, hc2, hb2⟩
          rw [List.length_replicate] at hr2 hc2 ⊢
          have HG2 : Hid (Gath w (.slice av zs.length cv) sl zs w2) := HG.out.next hb2
          have HD2 : Hid (Dsk w2 a2 S c2 (List.replicate S 0)) := ⟨hr2, hn2, hc2, wds_zero S⟩
          have HT2 : Hid (Tape (List.replicate S 0) [] 0) := Tape.blank h1 (by omega)
          have hne : ((S : Int) != (S : Int)) = false := by simp
          clear hr2 hn2 hc2 hb2 HG HB1
          go_wp2_with fail
          go_loopw [11, 13] (fun vc i wx => ∃ (j : Nat) (a' : Option Addr) (c' : Nat) (z : List Int), vc = .slice a' S c' ∧ j ≤ zs.length ∧ i = .int .i64 (j : Int) ∧ Dsk wx a' S c' z ∧ Tape z (zs.take j) (sumR (zs.take j)) ∧ Gath w (.slice av zs.length cv) sl zs wx) (fun _ i _ => zs.length - (intOf i).toNat)
          case atStart => exact ⟨0, a2, c2, _, rfl, Nat.zero_le _, rfl, HD2.out, HT2.out, HG2.out⟩
          case round =>
            rename_i wy
            obtain ⟨j, a', c', z, rfl, hj, rfl, hd, ht, hG⟩ := hrel
            have HDJ : Hid (Dsk wr a' S c' z) := hd
            have HTJ : Hid (Tape z (zs.take j) (sumR (zs.take j))) := ht
            have HGJ : Hid (Gath w (.slice av zs.length cv) sl zs wr) := hG
            clear HD2 HT2 HG2
            by_cases hjl : j < zs.length
            · obtain ⟨g, off, cq, hv, lg, hcc⟩ := lr_at hG.lr hG.recs hG.room (by omega)
              injection hv with e1 _ e3
              obtain ⟨b', o', m', c3, hcell, hrow, hmc, hm20⟩ := hcc j hjl
              have HPU1 : Hid (Calls Try.prog 22 #[.slice a' S c', .slice (some ⟨b', o', none⟩) m' c3] wr fun e w' => PutPost wr S (wrt z (appW z (sumR (zs.take j)) (zs.getD j []))) e w') := HPU.out wr a' S c' c3 b' o' m' zs j z hd ht hG.ok hjl (by have := HS.out; omega) hrow hmc
              have HTN : Hid (Tape (wrt z (appW z (sumR (zs.take j)) (zs.getD j []))) (zs.take (j + 1)) (sumR (zs.take (j + 1)))) := by
                have hz := recsOk_at hG.ok j hjl
                have q1 := sumR_take zs j hjl
                have q2 := sumR_le zs (j + 1)
                have q3 := hd.row.1
                have q4 := HS.out
                have := ht.all (r := zs.getD j []) ⟨hz.2.1, by omega⟩ (by omega)
                rw [takeR_one zs j hjl, sumR_snoc]
                exact this
              subst e1
              subst e3
              generalize wrt z (appW z (sumR (zs.take j)) (zs.getD j [])) = zn at *
              clear hcc hrow hd ht hG HPU HDJ HTJ
              go_wp2_with fail
              refine HPU1.out.mono ?_
              rintro e w5 ⟨a5, c5, rfl, hd5, hb5⟩
              have HD5 : Hid (Dsk w5 a5 S c5 zn) := hd5
              have HG5 : Hid (Gath w (.slice (some ⟨g, off, none⟩) zs.length cv) sl zs w5) := HGJ.out.next hb5
              clear hd5 hb5 HPU1 hcell HGJ
              go_wp2_with fail
              go_roundw
              case rel => exact ⟨j + 1, a5, c5, zn, rfl, by omega, by go_num, HD5.out, HTN.out, HG5.out⟩
              case measure => simp [intOf]; omega
            · obtain rfl : j = zs.length := by omega
              have HTE : Hid (Tape z zs (sumR zs)) := by have := HTJ.out; rw [List.take_length] at this; exact this
              clear hd ht hG HTJ
              go_wp2_with fail
              go_ret3
              exact .inl ⟨a', S, c', _, z, sl, zs, rfl, h1, HS.out, HDJ.out, HTE.out, HGJ.out.lr, HGJ.out.recs, HGJ.out.room, HGJ.out.ok, hl12, HGJ.out.bel⟩

end Go.Proofs.Ytfllkhlnnihndaa.disk
