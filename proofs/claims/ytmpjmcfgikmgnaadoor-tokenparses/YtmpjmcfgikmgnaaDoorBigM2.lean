/- A number of any size over one word. A copy of a number's words. A number of any size as decimal digits. What (*Int).Text gives back, in base 10. What (*Int).String gives back. The length in bits of a number of any size; its low two words; shifts by 31. Shifts of a number of any size. A number of any size shifted down. -/
import Derived.Test.YtmpjmcfgikmgnaaDoorBigM1
import Derived.Test.YtmpjmcfgikmgnaaDoorBop
import Derived.Test.YtmpjmcfgikmgnaaDoorWShow
import Derived.Deep.AppendLies
namespace Go.Proofs.YtmpjmcfgikmgnaaDoor.words
open Go.RowKit
set_option maxRecDepth 100000

/-- The number that the words of f from i on, below n, make. -/
def hf (f : Nat → Nat) (i n : Nat) : Nat := nf (fun j => f (i + j)) (n - i)
theorem hf_zero (f : Nat → Nat) (n : Nat) : hf f 0 n = nf f n := by
  unfold hf
  exact nf_congr fun j _ => by rw [Nat.zero_add]
theorem hf_top (f : Nat → Nat) (n : Nat) : hf f n n = 0 := by unfold hf; rw [Nat.sub_self]; rfl
theorem hf_step (f : Nat → Nat) {i n : Nat} (h : i < n) : hf f i n = f i + 4294967296 * hf f (i + 1) n := by
  unfold hf
  rw [show n - i = (n - (i + 1)) + 1 by omega, nf_cons]
  congr 2
  exact nf_congr fun j _ => by rw [show i + (j + 1) = i + 1 + j by omega]
theorem hf_congr {f g : Nat → Nat} {i n : Nat} (h : ∀ j, i ≤ j → f j = g j) : hf f i n = hf g i n := by
  unfold hf
  exact nf_congr fun j _ => h _ (by omega)

/-- One word more of a quotient. -/
theorem small_step {Q A r d x : Nat} (h : Q * d + r = A) : ((r * 4294967296 + x) / d + 4294967296 * Q) * d + (r * 4294967296 + x) % d = x + 4294967296 * A := by
  have e := Nat.div_add_mod (r * 4294967296 + x) d
  have e1 : (r * 4294967296 + x) / d * d = d * ((r * 4294967296 + x) / d) := Nat.mul_comm _ _
  rw [Nat.add_mul, ← h, Nat.mul_add, ← Nat.mul_assoc 4294967296 Q d]
  omega
theorem small_fin {Q r d m : Nat} (h : Q * d + r = m) (hr : r < d) : Q = m / d ∧ r = m % d := by
  have h1 : m / d = Q := by
    rw [← h, Nat.mul_comm, Nat.mul_add_div (by omega), Nat.div_eq_of_lt hr, Nat.add_zero]
  have h2 : m % d = r := by
    rw [← h, Nat.mul_comm, Nat.mul_add_mod, Nat.mod_eq_of_lt hr]
  exact ⟨h1.symm, h2.symm⟩

/-- trim gives back a part of what it got. -/
def TrimAt (w : World) (a : Option Addr) (cap m : Nat) (e : Ending) (w' : World) : Prop := w' = w ∧ ∃ k, e = .returned (.slice a k cap) ∧ Ru w a k cap (dig m)

set_option maxHeartbeats 1000000 in
theorem trim_at (a : Option Addr) (n cap : Nat) (l : List Nat) (w : World) (h : Ru w a n cap l) (hn : n ≤ 1000) :
    Calls Tryd.prog 82 #[.slice a n cap] w fun e w' => TrimAt w a cap (nv l) e w' := by
  have HR : Hid (Ru w a n cap l) := h
  clear h
  go_enter Tryd.func82, Tryd.ntmps82
  go_wp2_with fail
  go_loop [3] (fun v => ∃ k : Nat, k ≤ n ∧ v = .int .i64 k ∧ ∀ i, k ≤ i → i < n → l.getD i 0 = 0) (fun v => (intOf v).toNat)
  case atStart => exact ⟨n, Nat.le_refl _, rfl, fun i h1 h2 => by omega⟩
  case round =>
    obtain ⟨k, hk, rfl, hz⟩ := hrel
    have HZ : Hid (∀ i, k ≤ i → i < n → l.getD i 0 = 0) := hz
    clear hz
    have fin : (k = 0 ∨ l.getD (k - 1) 0 ≠ 0) → TrimAt w a cap (nv l) (.returned (.slice a k cap)) w := fun hh => by
      have e := trim_dig l k HR.out.lt (by rw [HR.out.len]; exact hk) (fun i h1 h2 => HZ.out i h1 (by rw [HR.out.len] at h2; exact h2)) hh
      refine ⟨rfl, k, rfl, ?_⟩
      rw [← e]
      refine ⟨by rw [List.length_take, HR.out.len]; omega, fun x hx => HR.out.lt x (List.mem_of_mem_take hx), HR.out.nil, Nat.le_trans hk HR.out.room, ?_, fun b off s e hn => HR.out.typ b off s e (by omega)⟩
      rcases HR.out.cell with h0 | ⟨b, off, rfl, hc⟩
      · exact .inl (by omega)
      · refine .inr ⟨b, off, rfl, fun i hi => ?_⟩
        rw [hc i (by omega)]
        congr 3
        simp [List.getD, hi]
    have HF : Hid ((k = 0 ∨ l.getD (k - 1) 0 ≠ 0) → TrimAt w a cap (nv l) (.returned (.slice a k cap)) w) := fin
    have hsl := slice_top a n cap k w hk HR.out.room HR.out.nil
    clear fin
    by_cases hk0 : k = 0
    · subst hk0
      go_wp2_with fail
      go_ret
      exact HF.out (.inl (by trivial))
    · obtain ⟨b, off, rfl, hc⟩ := HR.out.at (i := k - 1) (by omega)
      have e1 : (k : Int) - 1 = ((k - 1 : Nat) : Int) := by omega
      have kp : (0 : Int) < (k : Int) := by omega
      by_cases hzero : l.getD (k - 1) 0 = 0
      · rw [hzero] at hc
        have HN : Hid (∀ i, k - 1 ≤ i → i < n → l.getD i 0 = 0) := fun i h1 h2 => by
          by_cases e : i = k - 1
          · rw [e]; exact hzero
          · exact HZ.out i (by omega) h2
        clear HF hsl hzero
        have hg : k - 1 < n := by omega
        generalize hgg : k - 1 = g at *
        go_wp2_with fail
        go_round
        case rel => exact ⟨g, by omega, by go_num, HN.out⟩
        case measure => simp [intOf]; omega
      · have hb : ((((l.getD (k - 1) 0 : Nat) : Int)) == 0) = false := beq_eq_false_iff_ne.2 (by omega)
        have HH : Hid (l.getD (k - 1) 0 ≠ 0) := hzero
        clear hzero
        have hg : k - 1 < n := by omega
        generalize ((l.getD (k - 1) 0 : Nat) : Int) = y at hb hc
        generalize hgg : k - 1 = g at hc e1 hg
        go_wp2_with fail
        go_ret
        exact HF.out (.inr HH.out)

/-- A quotient and a rest were given back. -/
def SmallGives (w : World) (m r : Nat) (e : Ending) (w' : World) : Prop := ∃ a n cap, e = .returned (.tuple #[.slice a n cap, .int .u32 (r : Int)]) ∧ Ru w' a n cap (dig m) ∧ Below w.heap.size w w' ∧ ∀ b off, a = some ⟨b, off, none⟩ → w.heap.size ≤ b

set_option maxHeartbeats 2000000 in
theorem small_any (a : Option Addr) (n ca d : Nat) (la : List Nat) (w : World) (ha : Ru w a n ca la) (hn : n ≤ 100) (d0 : 0 < d) (d1 : d < 4294967296) :
    Calls Tryd.prog 79 #[.slice a n ca, .int .u32 (d : Int)] w fun e w' => SmallGives w (nv la / d) (nv la % d) e w' := by
  obtain ⟨i0, hi, hz0, hz1, hz2⟩ := info_parts info_u32
  have HA : Hid (Ru w a n ca la) := ha
  clear ha
  go_enter Tryd.func79, Tryd.ntmps79
  go_wp2_with (first
    | (at_make; refine wpList_make_full _ rfl _ _ 59 rfl w.heap.size 28 i0 (.int .u32 0) 1 Tryd.underlying59 hi hz0 hz1 _ _ _ _ n rfl rfl ?c0 ?c1 ?c2 ?c3 ?c4 ?_))
  try (case c0 => first | rfl | (congr 1; omega))
  try (case c1 => first | rfl | (congr 1; omega))
  case c2 => first | omega | (rw [hz2]; omega)
  case c3 => unfold maxLen; omega
  try (case c4 => simp)
  intro w1 hown hgr
  have HR1 : Hid (RowU w1 w.heap.size n (fun _ => 0)) := rowU_made hown
  have HB1 : Hid (Below w.heap.size w w1) := (Below.refl _ _).grown hgr (Nat.le_refl _) (fun k hk => by cases hk)
  clear hown hgr hi hz0 hz1 hz2
  go_wp2_with fail
  go_loopw [7, 8] (fun rv iv wr => ∃ (k r : Nat) (f : Nat → Nat), k ≤ n ∧ iv = .int .i64 ((k : Int) - 1) ∧ rv = .int .u64 (r : Int) ∧ r < d ∧ RowU wr w.heap.size n f ∧ (∀ j, j < n → f j < 4294967296) ∧ Below w.heap.size w wr ∧ hf f k n * d + r = hf (fun j => la.getD j 0) k n) (fun _ iv _ => (intOf iv + 1).toNat)
  case atStart => exact ⟨n, 0, fun _ => 0, Nat.le_refl _, rfl, rfl, d0, HR1.out, fun _ _ => (by decide : 0 < 4294967296), HB1.out, by rw [hf_top, hf_top, Nat.zero_mul]⟩
  case round =>
    obtain ⟨k, r, f, hkn, rfl, rfl, hrd, hrow, hfb, hb, heq⟩ := hrel
    by_cases hk0 : k = 0
    · subst hk0
      have HN : Hid (Ru wr (some ⟨w.heap.size, 0, none⟩) n n ((List.range n).map f)) := hrow.ru hfb
      have HB : Hid (Below w.heap.size w wr) := hb
      have hfin : nv ((List.range n).map f) = nv la / d ∧ r = nv la % d := by
        rw [hf_zero, hf_zero, ← nv_more la (by rw [HA.out.len]; exact Nat.le_refl _), ← nv_range] at heq
        exact small_fin heq hrd
      have HE : Hid (nv ((List.range n).map f) = nv la / d) := hfin.1
      have HM : Hid (r = nv la % d) := hfin.2
      have rb : (r : Int) < 4294967296 := by omega
      have rm : (r : Int) % 4294967296 = r := by omega
      clear hrow hfb hb heq hfin
      go_wp2_with fail
      refine (trim_at _ _ _ _ _ HN.out (by omega)).mono ?_
      rintro e w3 ⟨rfl, n3, rfl, hr3⟩
      rw [HE.out] at hr3
      have HG : Hid (SmallGives w (nv la / d) (nv la % d) (.returned (.tuple #[.slice (some ⟨w.heap.size, 0, none⟩) n3 n, .int .u32 (r : Int)])) w3) := ⟨some ⟨w.heap.size, 0, none⟩, n3, n, by rw [HM.out], hr3, HB.out, fun b off e => by simp at e; omega⟩
      clear hr3
      go_wp2_with fail
      refine bodyPost_ret (v := .tuple #[.slice (some ⟨w.heap.size, 0, none⟩) n3 n, .int .u32 (r : Int)]) (by simp [results, Tryd.results79, go_sem]) rfl HG.out
    · obtain ⟨g, rfl⟩ : ∃ g, k = g + 1 := ⟨k - 1, by omega⟩
      have eg : ((g + 1 : Nat) : Int) - 1 = (g : Int) := by omega
      rw [eg]
      obtain ⟨ba, oa, rfl, hca⟩ := (HA.out.below hb).at (i := g) (by omega)
      have hx := HA.out.word g
      obtain ⟨x, hxx⟩ : ∃ x, la.getD g 0 = x := ⟨_, rfl⟩
      rw [hxx] at hca hx
      have r0 := hrow.cell (i := g) (by omega)
      have f0 := hrow.free g
      obtain ⟨fi, hfi⟩ : ∃ fi : Int, ((f g : Nat) : Int) = fi := ⟨_, rfl⟩
      rw [hfi] at r0
      clear hfi
      have gn : (g : Int) < (n : Int) := by omega
      have hor := or_words r x (by omega) (by omega) (by omega) (by omega)
      have e0 : (r : Int) * 4294967296 + (x : Int) = ((r * 4294967296 + x : Nat) : Int) := by omega
      have hst := small_step (Q := hf f (g + 1) n) (A := hf (fun j => la.getD j 0) (g + 1) n) (r := r) (d := d) (x := x) heq
      have hql : (r * 4294967296 + x) / d < 4294967296 := by
        rw [Nat.div_lt_iff_lt_mul d0]
        have : (r + 1) * 4294967296 ≤ d * 4294967296 := Nat.mul_le_mul_right _ hrd
        rw [Nat.mul_comm 4294967296 d]
        omega
      have HF : Hid (∀ j, j < n → updU f g ((r * 4294967296 + x) / d) j < 4294967296) := fun j hj => by
        unfold updU
        split
        · exact hql
        · exact hfb j hj
      have HE : Hid (hf (updU f g ((r * 4294967296 + x) / d)) g n * d + (r * 4294967296 + x) % d = hf (fun j => la.getD j 0) g n) := by
        have e3 : hf (updU f g ((r * 4294967296 + x) / d)) (g + 1) n = hf f (g + 1) n := hf_congr fun j hj => by unfold updU; rw [if_neg (by omega)]
        have e4 : updU f g ((r * 4294967296 + x) / d) g = (r * 4294967296 + x) / d := by unfold updU; rw [if_pos rfl]
        have goal : hf (updU f g ((r * 4294967296 + x) / d)) g n * d + (r * 4294967296 + x) % d = hf (fun j => la.getD j 0) g n := by
          rw [hf_step _ (by omega : g < n), hf_step (fun j => la.getD j 0) (by omega : g < n), e3, e4, hxx]
          exact hst
        exact goal
      have hrl : (r * 4294967296 + x) % d < d := Nat.mod_lt _ d0
      have hqb : r * 4294967296 + x < 18446744073709551616 := by omega
      generalize hq : r * 4294967296 + x = q at *
      rw [e0] at hor
      have e1 : ((q : Nat) : Int) / (d : Int) = ((q / d : Nat) : Int) := by simp
      have e2 : ((q : Nat) : Int) % (d : Int) = ((q % d : Nat) : Int) := by simp
      have HN : Hid (RowU (wr.setCell ⟨w.heap.size, g, none⟩ (.int .u32 ((q / d : Nat) : Int))) w.heap.size n (updU f g (q / d))) := hrow.set _ _
      have HBN : Hid (Below w.heap.size w (wr.setCell ⟨w.heap.size, g, none⟩ (.int .u32 ((q / d : Nat) : Int)))) := below_set hb _ _ _ (Nat.le_refl _)
      clear hst heq hfb hrow hb hxx hq
      have di : 0 < (d : Int) := by omega
      have dl : (d : Int) < 4294967296 := by omega
      have dz : ((d : Int) == 0) = false := beq_eq_false_iff_ne.2 (by omega)
      generalize q / d = u at *
      have ql : (u : Int) < 4294967296 := by omega
      have qm : (u : Int) % 4294967296 = (u : Int) := by omega
      generalize q % d = v at *
      go_wp2_with fail
      go_roundw
      case rel => exact ⟨g, v, _, by omega, by go_num, by first | rfl | rw [e2], hrl, HN.out, HF.out, HBN.out, HE.out⟩
      case measure => first | (simp [intOf]; done) | (simp [intOf]; omega)

end Go.Proofs.YtmpjmcfgikmgnaaDoor.words
namespace Go.Proofs.YtmpjmcfgikmgnaaDoor.words
open Go.RowKit
set_option maxRecDepth 100000

theorem own_ru {w : World} {base : Nat} {v : Value} {n : Nat} {l : List Nat} (h : w.ownsRow base 28 1 v n (l.map fun (x : Nat) => Value.int .u32 (x : Int))) (hl : l.length = n) (hlt : ∀ x ∈ l, x < 4294967296) :
    ∃ a cap, v = .slice a n cap ∧ Ru w a n cap l := by
  rcases h.2 with ⟨rfl, rfl⟩ | ⟨g, cap, cur, rfl, hb, hg, hnc, _, hcs, htake⟩
  · exact ⟨none, 0, rfl, hl, hlt, fun _ => rfl, Nat.le_refl _, .inl rfl, fun _ _ _ e _ => by cases e⟩
  · refine ⟨_, cap, rfl, hl, hlt, (fun e => by cases e), hnc, .inr ⟨g, 0, rfl, fun i hi => ?_⟩, fun b off s e _ => by obtain ⟨rfl, -, -⟩ := (by simpa using e : g = b ∧ 0 = off ∧ none = s); exact ⟨_, _, hg⟩⟩
    have := h.cellAt i (by omega)
    rw [Nat.zero_add, this]
    simp [List.getD, List.getElem?_eq_getElem (show i < l.length by omega)]

set_option maxHeartbeats 400000 in
theorem twin_any (a : Option Addr) (n cap m : Nat) (w : World) (hr : Ru w a n cap (dig m)) (hl : n ≤ 100) :
    Calls Tryd.prog 72 #[.slice a n cap] w fun e w' => Gives w m e w' := by
  obtain ⟨i0, hi, hz0, hz1, hz2⟩ := info_parts info_u32
  cases a with
  | none =>
    have hc := hr.nil rfl
    have h0 : n = 0 := by have := hr.room; omega
    subst hc h0
    have happ : ∀ w : World, (Builtin.append_ #[59, 59] 59 #[.slice none 0 0, .slice none 0 0]).run Tryd.prog w = .ok (.slice none 0 0) w := fun w => by kernel_rfl
    have HG : Hid (Gives w m (.returned (.slice none 0 0)) w) := Gives.mk hr (Below.refl _ _)
    clear hr
    go_enter Tryd.func72, Tryd.ntmps72
    go_wp2
    go_ret
    exact HG.out
  | some x =>
    have HR : Hid (Ru w (some x) n cap (dig m)) := hr
    clear hr
    go_enter Tryd.func72, Tryd.ntmps72
    go_wp2_with (first
      | (at_builtin; refine wpList_append_own _ rfl _ _ 59 rfl w.heap.size 28 i0 (.int .u32 0) 1 4 Tryd.underlying59 hi hz0 hz1 hz2 rfl (by decide) _ _ _ rfl (World.ownsRow_nil _ _ _ _) x n cap ((dig m).map fun (x : Nat) => Value.int .u32 (x : Int)) rfl ?c0 ?c1 ?c2 ?c3 ?c4 ?c5 ?_)
      | go_in)
    case c0 => simp [HR.out.len]
    case c5 => exact Nat.le_refl _
    case c1 =>
      intro j u hu
      rcases HR.out.cell with h | ⟨b, off, h, hc⟩
      · rw [List.getElem?_eq_none (by simp [HR.out.len]; omega)] at hu; cases hu
      · obtain rfl := Option.some.inj h
        by_cases hj : j < (dig m).length
        · simp [List.getElem?_eq_getElem hj] at hu
          subst hu
          have := hc j (by rw [HR.out.len] at hj; exact hj)
          simpa [Addr.add_lit, List.getD, List.getElem?_eq_getElem hj] using this
        · rw [List.getElem?_eq_none (by simp; omega)] at hu; cases hu
    case c2 => intro u hu; obtain ⟨z, _, rfl⟩ := List.mem_map.1 hu; rfl
    case c3 => unfold maxLen; omega
    case c4 => omega
    intro v' w' hown hg _
    obtain ⟨a', cap', hv, hrow⟩ := own_ru (l := dig m) (n := n) (by simpa using hown) HR.out.len HR.out.lt
    rw [hv]
    have HG : Hid (Gives w m (.returned (.slice a' n cap')) w') := Gives.mk hrow ((Below.refl _ _).grown hg (Nat.le_refl _) (fun k hk => by simp [Value.ownBlock] at hk))
    clear hown hg hrow
    go_wp2
    go_ret
    exact HG.out

end Go.Proofs.YtmpjmcfgikmgnaaDoor.words
namespace Go.Proofs.YtmpjmcfgikmgnaaDoor.words
open Go.RowKit
set_option maxRecDepth 100000

def lenOf : Value → Nat
  | .slice _ n _ => n
  | _ => 0
theorem own_len {w : World} {base e k : Nat} {v : Value} {n : Nat} {xs : List Value} (h : w.ownsRow base e k v n xs) : lenOf v = n := by
  rcases h.2 with ⟨rfl, rfl⟩ | ⟨g, cap, cur, rfl, _⟩ <;> rfl
theorem own_below {w w' : World} {base e k : Nat} {v : Value} {n : Nat} {xs : List Value} (h : w.ownsRow base e k v n xs) (hb : Below w.heap.size w w') : w'.ownsRow base e k v n xs :=
  ⟨h.1, h.2.imp id fun ⟨g, cap, cur, h1, h2, h3, h4⟩ => ⟨g, cap, cur, h1, h2, by rw [hb.block g (heap_lt h3)]; exact h3, h4⟩⟩
theorem own_lt {w : World} {base e k : Nat} {v : Value} {n : Nat} {xs : List Value} (h : w.ownsRow base e k v n xs) {g : Nat} (hg : v.ownBlock = some g) : base ≤ g ∧ g < w.heap.size := by
  rcases h.2 with ⟨rfl, rfl⟩ | ⟨g', cap, cur, rfl, hb, h3, _⟩
  · simp [Value.ownBlock] at hg
  · simp [Value.ownBlock] at hg
    subst hg
    exact ⟨hb, heap_lt h3⟩
/-- Words that lie apart from a row that has grown. -/
theorem Ru.grown {w w' : World} {a : Option Addr} {n cap : Nat} {l : List Nat} {row : Option Nat} (h : Ru w a n cap l) (hg : w.grownBy w' row) (hne : ∀ b off, a = some ⟨b, off, none⟩ → some b ≠ row) : Ru w' a n cap l := by
  refine ⟨h.len, h.lt, h.nil, h.room, ?_, fun b off s e hn => (h.typ b off s e hn).same (hg.block b (h.typ b off s e hn).lt (by
    rcases h.cell with h0 | ⟨b', off', e', _⟩
    · exact absurd h0 hn
    · rw [e'] at e
      obtain ⟨rfl, rfl, rfl⟩ := (by simpa using e : b' = b ∧ off' = off ∧ none = s)
      exact hne _ _ e'))⟩
  rcases h.cell with h0 | ⟨b, off, rfl, hc⟩
  · exact .inl h0
  · refine .inr ⟨b, off, rfl, fun i hi => ?_⟩
    have h1 := hc i hi
    rw [World.cell?_of_block (w := w) (a := ⟨b, off + i, none⟩) (hg.block b (World.block_lt_of_cell? w _ h1) (hne b off rfl))]
    exact h1

/-- What the digits so far, the least first, and the rest of the number make. -/
def TextInv (m M : Nat) (ds : List Int) : Prop := M ≤ m ∧ ((M = 0 ∧ ds ≠ [] ∧ decL m = ds.reverse) ∨ (0 < M ∧ decL m = decL M ++ ds.reverse))
theorem text_more {m M : Nat} {ds : List Int} (h : TextInv m M ds) (h0 : 0 < M) : TextInv m (M / 10) (ds ++ [48 + ((M % 10 : Nat) : Int)]) := by
  obtain ⟨hle, h⟩ := h
  have he : decL m = decL M ++ ds.reverse := by
    rcases h with h | h
    · omega
    · exact h.2
  refine ⟨by omega, ?_⟩
  by_cases h10 : M < 10
  · left
    refine ⟨by omega, by simp, ?_⟩
    rw [he, decL_one h10, Nat.mod_eq_of_lt h10]
    simp
  · right
    refine ⟨by omega, ?_⟩
    rw [he, decL_more h10]
    simp
theorem text_len {m M : Nat} {ds : List Int} (h : TextInv m M ds) (h0 : 0 < M) : ds.length < (decL m).length := by
  rcases h.2 with h | ⟨_, h⟩
  · omega
  · rw [h]
    have : 0 < (decL M).length := List.length_pos_iff.2 (decL_ne M)
    simp; omega
theorem dig_mono {M m : Nat} (h : M ≤ m) : (dig M).length ≤ (dig m).length := by
  rcases Nat.lt_or_ge (dig m).length (dig M).length with h1 | h1
  · have := len_less h1; omega
  · exact h1

theorem info_u8 : (Tryd.prog.info? 5).map (fun i => (i.zero, i.size, i.bytes)) = some (some (.int .u8 0), 1, 1) := by kernel_rfl

/-- A row of bytes that the call owns. -/
def RB (w : World) (base g cap L : Nat) (f : Nat → Int) : Prop := w.ownsRow base 5 1 (.slice (some ⟨g, 0, none⟩) L cap) L ((List.range L).map fun k => Value.int .u8 (f k))
theorem RB.cell {w : World} {base g cap L : Nat} {f : Nat → Int} (h : RB w base g cap L f) {i : Nat} (hi : i < L) : w.cell? ⟨g, i, none⟩ = some (.int .u8 (f i)) := by
  have := World.ownsRow.cellAt h i (by omega)
  rw [this]
  simp [hi]
theorem RB.free {w : World} {base g cap L : Nat} {f : Nat → Int} (h : RB w base g cap L f) (i : Nat) : w.frozen? ⟨g, i, none⟩ = false := World.ownsRow.frozenAt h i
theorem RB.set {w : World} {base g cap L : Nat} {f : Nat → Int} (h : RB w base g cap L f) (i : Nat) (v : Int) : RB (w.setCell ⟨g, i, none⟩ (.int .u8 v)) base g cap L (updd f i v) := by
  have := (World.ownsRow.stored h i (.int .u8 v)).1
  unfold RB
  rw [show ((List.range L).map fun k => Value.int .u8 (updd f i v k)) = ((List.range L).map fun k => Value.int .u8 (f k)).set i (.int .u8 v) from ?_]
  · exact this
  · apply List.ext_getElem?
    intro k
    by_cases hk : k < L
    · by_cases e : k = i
      · subst e; simp [updd, hk]
      · rw [List.getElem?_set_ne (by omega)]; simp [updd, hk, e]
    · rw [List.getElem?_eq_none (by simp; omega), List.getElem?_eq_none (by simp; omega)]
theorem RB.drewN {w : World} {base g cap L : Nat} {f : Nat → Int} (h : RB w base g cap L f) (q : Nat) : RB (w.drewN q) base g cap L f := h
theorem RB.lt {w : World} {base g cap L : Nat} {f : Nat → Int} (h : RB w base g cap L f) : base ≤ g := (own_lt h (g := g) rfl).1

theorem conv_row (w : World) (base g cap L : Nat) (f : Nat → Int) (h : RB w base g cap L f) :
    (convert 91 9 (.slice (some ⟨g, 0, none⟩) L cap)).run Tryd.prog w = .ok (.string (strOf ((List.range L).map f))) w := by
  rw [run_convert_bytes_string _ _ _ _ _ _ _ Tryd.underlying91 Tryd.underlying5 Tryd.underlying9, run_bytesToString _ _ _ _ ((List.range L).map f)]
  · rfl
  · have := run_loadCells (P := Tryd.prog) w ⟨g, 0, none⟩ L (fun i => .int .u8 (f i)) (fun j hj => by rw [Addr.add_lit, Nat.zero_add]; exact h.cell (by omega))
    rw [this]
    congr 2
    simp

/-- The places below i, and those as far from the end, have changed. -/
def Turned (L i : Nat) (d f : Nat → Int) : Prop := ∀ k, k < L → f k = if k < i ∨ L - 1 - i < k then d (L - 1 - k) else d k
theorem turned_step {L i : Nat} {d f : Nat → Int} (h : Turned L i d f) (hi : i < L - 1 - i) : Turned L (i + 1) d (updd (updd f i (f (L - 1 - i))) (L - 1 - i) (f i)) := by
  intro k hk
  have h1 := h i (by omega)
  have h2 := h (L - 1 - i) (by omega)
  have h3 := h k hk
  rw [if_neg (by omega)] at h1 h2
  unfold updd
  by_cases e1 : k = L - 1 - i
  · rw [if_pos e1, if_pos (by omega), h1]; congr 1; omega
  · rw [if_neg e1]
    by_cases e2 : k = i
    · rw [if_pos e2, if_pos (by omega), h2]; congr 1; omega
    · rw [if_neg e2, h3]
      by_cases e3 : k < i ∨ L - 1 - i < k
      · rw [if_pos e3, if_pos (by omega)]
      · rw [if_neg e3, if_neg (by omega)]
theorem turned_end {L i : Nat} {d f : Nat → Int} (h : Turned L i d f) (hi : ¬ i < L - 1 - i) (ds : List Int) (hL : ds.length = L) (hd : ∀ k, d k = ds.getD k 0) : (List.range L).map f = ds.reverse := by
  apply List.ext_getElem (by simp [hL])
  intro k h1 h2
  have hk : k < L := by simpa using h1
  rw [List.getElem_reverse, List.getElem_map, List.getElem_range, h k hk]
  have e : d (L - 1 - k) = ds[ds.length - 1 - k] := by
    subst hL
    rw [hd]
    simp [List.getD, List.getElem?_eq_getElem (show ds.length - 1 - k < ds.length by omega)]
  by_cases c : k < i ∨ L - 1 - i < k
  · rw [if_pos c, e]
  · rw [if_neg c, ← e]; congr 1; omega

end Go.Proofs.YtmpjmcfgikmgnaaDoor.words
namespace Go.Proofs.YtmpjmcfgikmgnaaDoor.words
open Go.RowKit
set_option maxRecDepth 100000

def StrPost (w : World) (m : Nat) (e : Ending) (w' : World) : Prop := e = .returned (.string (strOf (decL m))) ∧ Below w.heap.size w w'

theorem bg_at {w w' : World} {z : Nat} {v : Value} (h : w.heap[z]? = some (.cells #[.bool false, v] 61 (0, 0))) (hb : Below w.heap.size w w') : w'.cell? ⟨z, 0, none⟩ = some (.bool false) ∧ w'.cell? ⟨z, 1, none⟩ = some v := by
  have := ob_cells (w := w') (z := z) (s := false) (v := v) (by rw [hb.block z (heap_lt h)]; exact h)
  exact ⟨this.1, this.2.1⟩

set_option maxHeartbeats 4000000 in
theorem text_any (z m : Nat) (w : World) (hg : Bg w z m) (h0 : 0 < m) (hl : (dig m).length ≤ 100) (hd : (decL m).length ≤ 100) :
    Calls Tryd.prog 60 #[.pointer (some ⟨z, 0, none⟩), .int .i64 10] w fun e w' => StrPost w m e w' := by
  obtain ⟨i0, hi, hz0, hz1, hz2⟩ := info_parts info_u8
  obtain ⟨a, n, c, hcz, hr⟩ := hg
  have hn0 : n ≠ 0 := by
    intro e
    have := hr.len
    rw [e] at this
    have := dig_nil (List.eq_nil_of_length_eq_zero this)
    omega
  have hnl : n ≤ 100 := by have := hr.len; omega
  have HR : Hid (Ru w a n c (dig m)) := hr
  have HZ : Hid (w.heap[z]? = some (.cells #[.bool false, .slice a n c] 61 (0, 0))) := hcz
  obtain ⟨c0, c1⟩ := bg_at hcz (Below.refl _ w)
  have hnb : ((n : Int) == 0) = false := beq_eq_false_iff_ne.2 (by omega)
  clear hr hcz
  go_enter Tryd.func60, Tryd.ntmps60
  go_wp2_with fail
  refine (twin_any a n c m w HR.out hnl).mono ?_
  rintro e w1 ⟨a1, n1, k1, rfl, hr1, hb1⟩
  have HR1 : Hid (Ru w1 a1 n1 k1 (dig m)) := hr1
  have HB1 : Hid (Below w.heap.size w w1) := hb1
  clear hr1 hb1 c0 c1
  go_wp2_with fail
  go_loopw [5, 6] (fun bv av wr => ∃ (V : Value) (M : Nat) (ds : List Int) (a : Option Addr) (n c : Nat), V = bv ∧ av = .slice a n c ∧ Ru wr a n c (dig M) ∧ wr.ownsRow w.heap.size 5 1 bv ds.length (ds.map (Value.int .u8)) ∧ Below w.heap.size w wr ∧ TextInv m M ds) (fun bv _ _ => 100 - lenOf bv)
  case atStart => exact ⟨_, m, [], a1, n1, k1, rfl, rfl, HR1.out, World.ownsRow_nil _ _ _ _, HB1.out, Nat.le_refl _, .inr ⟨h0, by simp⟩⟩
  case round =>
    obtain ⟨bv, M, ds, a2, n2, k2, hbv, rfl, hr2, hown, hb2, hti⟩ := hrel
    subst hbv
    by_cases hM : M = 0
    · subst hM
      have hn2 : n2 = 0 := by have := hr2.len; rw [dig_zero] at this; simpa using this.symm
      subst hn2
      obtain ⟨hdn, hde⟩ : ds ≠ [] ∧ decL m = ds.reverse := by
        rcases hti.2 with h | h
        · exact h.2
        · omega
      have hL0 : 0 < ds.length := List.length_pos_iff.2 hdn
      have hL1 : ds.length ≤ 100 := by rw [hde] at hd; simpa using hd
      obtain ⟨g, cap, hbv, hgb, hgl⟩ := hown.form hL0
      subst hbv
      obtain ⟨L, hLL⟩ : ∃ L, ds.length = L := ⟨_, rfl⟩
      have HROW : Hid (RB wr w.heap.size g cap L (fun k => ds.getD k 0)) := by
        have e : ds.map (Value.int .u8) = (List.range L).map fun k => Value.int .u8 (ds.getD k 0) := by
          apply List.ext_getElem (by simp [hLL])
          intro k h1 h2
          simp [List.getD, List.getElem?_eq_getElem (show k < ds.length by simpa using h1)]
        have goal : RB wr w.heap.size g cap L (fun k => ds.getD k 0) := by
          unfold RB
          rw [← e, ← hLL]
          exact hown
        exact goal
      rw [hLL] at hL0 hL1
      rw [hLL]
      obtain ⟨c0, c1⟩ := bg_at HZ.out hb2
      have HB : Hid (Below w.heap.size w wr) := hb2
      have HD : Hid (decL m = ds.reverse ∧ ds.length = L) := ⟨hde, hLL⟩
      clear hown hb2 hti hde hdn hLL hr2 hd hi hz0 hz1 hz2
      go_wp2_with fail
      go_loopw [8, 9] (fun iv jv wr => ∃ (i : Nat) (f : Nat → Int), i ≤ L ∧ iv = .int .i64 (i : Int) ∧ jv = .int .i64 ((L : Int) - 1 - (i : Int)) ∧ i ≤ (L - i) + 1 ∧ RB wr w.heap.size g cap L f ∧ Below w.heap.size w wr ∧ Turned L i (fun k => ds.getD k 0) f) (fun iv _ _ => L - (intOf iv).toNat)
      case atStart => exact ⟨0, _, Nat.zero_le _, rfl, by congr 1; omega, by omega, HROW.out, HB.out, fun k hk => by rw [if_neg (by omega)]⟩
      case round =>
        obtain ⟨i, f, hiL, rfl, rfl, hij, hrow, hb3, htu⟩ := hrel
        by_cases hlt : i < L - 1 - i
        · have ej : (L : Int) - 1 - (i : Int) = ((L - 1 - i : Nat) : Int) := by omega
          have r0 := hrow.cell (i := i) (by omega)
          have r1 := hrow.cell (i := L - 1 - i) (by omega)
          have f0 := hrow.free i
          have f1 := hrow.free (L - 1 - i)
          have HT : Hid (Turned L (i + 1) (fun k => ds.getD k 0) (updd (updd f i (f (L - 1 - i))) (L - 1 - i) (f i))) := turned_step htu hlt
          have HN : Hid (RB ((wr.setCell ⟨g, i, none⟩ (.int .u8 (f (L - 1 - i)))).setCell ⟨g, L - 1 - i, none⟩ (.int .u8 (f i))) w.heap.size g cap L (updd (updd f i (f (L - 1 - i))) (L - 1 - i) (f i))) := (hrow.set _ _).set _ _
          have HBN : Hid (Below w.heap.size w ((wr.setCell ⟨g, i, none⟩ (.int .u8 (f (L - 1 - i)))).setCell ⟨g, L - 1 - i, none⟩ (.int .u8 (f i)))) := below_set (below_set hb3 _ _ _ hgb) _ _ _ hgb
          have HJ : Hid (((L - 1 - i : Nat) : Int) - 1 = (L : Int) - 1 - ((i + 1 : Nat) : Int)) := (by omega : ((L - 1 - i : Nat) : Int) - 1 = (L : Int) - 1 - ((i + 1 : Nat) : Int))
          rw [ej]
          have hjL : L - 1 - i < L := by omega
          have hij2 : i < L - 1 - i := hlt
          have r2 := (hrow.set i (f (L - 1 - i))).cell (i := L - 1 - i) (by omega)
          have f2 := (hrow.set i (f (L - 1 - i))).free (L - 1 - i)
          clear hrow hb3 htu ej hlt
          obtain ⟨x, hx⟩ : ∃ x, f i = x := ⟨_, rfl⟩
          obtain ⟨y, hy⟩ : ∃ y, f (L - 1 - i) = y := ⟨_, rfl⟩
          rw [hx, hy] at HT HN HBN
          rw [hx] at r0
          rw [hy] at r1 r2 f2
          clear hx hy
          generalize updd f i y (L - 1 - i) = yy at r2
          generalize hjj : L - 1 - i = j at *
          go_wp2_with fail
          go_roundw
          case rel => exact ⟨i + 1, _, by omega, by go_num, by rw [HJ.out], by omega, HN.out, HBN.out, HT.out⟩
          case measure => simp [intOf]; omega
        · have hnl2 : ¬ (i : Int) < (L : Int) - 1 - (i : Int) := by omega
          have hcv := conv_row wr w.heap.size g cap L f hrow
          rw [turned_end htu hlt ds HD.out.2 fun _ => rfl, ← HD.out.1] at hcv
          have HB3 : Hid (Below w.heap.size w wr) := hb3
          clear hrow hb3 htu
          go_wp2_with fail
          go_ret
          exact ⟨rfl, HB3.out⟩
    · have hM0 : 0 < M := by omega
      have hn2 : n2 ≠ 0 := by
        intro e
        have := hr2.len
        rw [e] at this
        have := dig_nil (List.eq_nil_of_length_eq_zero this)
        omega
      have hl2 : n2 ≤ 100 := by have := hr2.len; have := dig_mono hti.1; omega
      have hds : ds.length < 100 := by have := text_len hti hM0; omega
      have HTI : Hid (TextInv m (M / 10) (ds ++ [48 + ((M % 10 : Nat) : Int)])) := text_more hti hM0
      have HRW : Hid (Ru wr a2 n2 k2 (dig M)) := hr2
      have HOW : Hid (wr.ownsRow w.heap.size 5 1 bv ds.length (ds.map (Value.int .u8))) := hown
      have HB2 : Hid (Below w.heap.size w wr) := hb2
      have hn2i : 0 < (n2 : Int) := by omega
      clear hr2 hown hb2 hti hM
      go_wp2_with fail
      refine (small_any a2 n2 k2 10 (dig M) wr HRW.out hl2 (by omega) (by omega)).mono ?_
      rintro e w3 ⟨a3, n3, k3, rfl, hr3, hb3, hfr⟩
      rw [nv_dig] at hr3
      rw [nv_dig]
      have hr10 : M % 10 < 10 := Nat.mod_lt _ (by decide)
      generalize hrr : M % 10 = r at *
      have HO3 : Hid (w3.ownsRow w.heap.size 5 1 bv ds.length (ds.map (Value.int .u8))) := own_below HOW.out hb3
      have HR3 : Hid (Ru w3 a3 n3 k3 (dig (M / 10)) ∧ ∀ b off, a3 = some ⟨b, off, none⟩ → some b ≠ bv.ownBlock) := ⟨hr3, fun b off e h => by
        have h1 := own_lt HOW.out h.symm
        have h2 := hfr b off e
        omega⟩
      have HB3 : Hid (Below w.heap.size w w3) := HB2.out.trans (hb3.mono HB2.out.size)
      have hri : (r : Int) < 10 := by omega
      have hrm : (48 + (r : Int)) % 256 = 48 + (r : Int) := by omega
      clear hr3 hb3 hfr HRW HOW HB2
      go_wp2_with (first
        | (at_builtin; refine wpList_append_lies _ rfl _ _ 91 rfl w.heap.size 5 i0 (.int .u8 0) 1 1 Tryd.underlying91 hi hz0 hz1 hz2 rfl (by decide) _ _ _ rfl (HO3.out.alloc _) ⟨w3.heap.size, 0, none⟩ 1 1 [.int .u8 (48 + (r : Int))] rfl rfl ?c1 ?c2 (by decide) ?c3 ?c4 ?c5 _ rfl ?_))
      case c1 =>
        intro j u hj
        match j, hj with
        | 0, hj => simp at hj; subst hj; simp [Addr.add]
      case c2 => intro u hu; simp at hu; subst hu; rfl
      case c3 => unfold maxLen; omega
      case c4 => omega
      case c5 => have := HB3.out.size; simp; omega
      intro g4 cap4 w4 hown4 hgr4 _ _
      have HO4 : Hid (w4.ownsRow w.heap.size 5 1 (.slice (some ⟨g4, 0, none⟩) (ds.length + 1) cap4) (ds ++ [48 + (r : Int)]).length ((ds ++ [48 + (r : Int)]).map (Value.int .u8))) := by
        have goal : w4.ownsRow w.heap.size 5 1 (.slice (some ⟨g4, 0, none⟩) (ds.length + 1) cap4) (ds ++ [48 + (r : Int)]).length ((ds ++ [48 + (r : Int)]).map (Value.int .u8)) := by
          simpa using hown4
        exact goal
      have HR4 : Hid (Ru w4 a3 n3 k3 (dig (M / 10))) := (HR3.out.1.below ((Below.refl _ w3).alloc (Nat.le_refl _) _)).grown hgr4 HR3.out.2
      have HB4 : Hid (Below w.heap.size w w4) := by
        have hba := HB3.out.alloc (HB3.out.size) (.cells #[.int .u8 (48 + (r : Int))] 5)
        exact hba.grown hgr4 hba.size (fun k hk => (own_lt HO3.out hk).1)
      have HLB : Hid (lenOf bv = ds.length) := own_len HO3.out
      clear hown4 hgr4 HO3 HR3 HB3
      go_wp2_with fail
      go_roundw
      case rel => exact ⟨_, M / 10, _, a3, n3, k3, rfl, rfl, HR4.out, HO4.out, HB4.out, HTI.out⟩
      case measure => rw [HLB.out]; simp [lenOf]; omega

end Go.Proofs.YtmpjmcfgikmgnaaDoor.words
namespace Go.Proofs.YtmpjmcfgikmgnaaDoor.words
open Go.RowKit
set_option maxRecDepth 100000

theorem str_zero : strOf (decL 0) = ⟨#[48]⟩ := by rw [decL_one (by decide)]; rfl

theorem text_zero (z : Nat) (w : World) (hg : Bg w z 0) :
    Calls Tryd.prog 60 #[.pointer (some ⟨z, 0, none⟩), .int .i64 10] w fun e w' => StrPost w 0 e w' := by
  obtain ⟨a, n, c, hcz, hr⟩ := hg
  have hn : n = 0 := by have := hr.len; rw [dig_zero] at this; simpa using this.symm
  subst hn
  obtain ⟨c0, c1⟩ := bg_at hcz (Below.refl _ w)
  have HP : Hid (StrPost w 0 (.returned (.string ⟨#[48]⟩)) w) := ⟨by rw [str_zero], Below.refl _ _⟩
  clear hr hcz
  go_enter Tryd.func60, Tryd.ntmps60
  go_wp2_with fail
  go_ret
  exact HP.out

theorem string_any (z m : Nat) (w : World) (hg : Bg w z m) (hl : (dig m).length ≤ 100) (hd : (decL m).length ≤ 100) :
    Calls Tryd.prog 27 #[.pointer (some ⟨z, 0, none⟩)] w fun e w' => StrPost w m e w' := by
  have HT : Hid (Calls Tryd.prog 60 #[.pointer (some ⟨z, 0, none⟩), .int .i64 10] w fun e w' => StrPost w m e w') := by
    by_cases h0 : m = 0
    · subst h0; exact text_zero z w hg
    · exact text_any z m w hg (by omega) hl hd
  clear hg
  go_enter Tryd.func27, Tryd.ntmps27
  go_wp2_with fail
  refine HT.out.mono ?_
  rintro e w1 ⟨rfl, hb⟩
  have HB : Hid (Below w.heap.size w w1) := hb
  clear hb
  go_wp2_with fail
  go_ret
  exact ⟨rfl, HB.out⟩

end Go.Proofs.YtmpjmcfgikmgnaaDoor.words
namespace Go.Proofs.YtmpjmcfgikmgnaaDoor.words
open Go.RowKit
set_option maxRecDepth 100000

/-- L bits are what m takes. -/
def BitsOf (m L : Nat) : Prop := m < 2 ^ L ∧ (m = 0 → L = 0) ∧ (0 < m → 0 < L ∧ 2 ^ (L - 1) ≤ m)
theorem bitsOf_uniq {m L L' : Nat} (h : BitsOf m L) (h' : BitsOf m L') : L = L' := by
  by_cases h0 : m = 0
  · rw [h.2.1 h0, h'.2.1 h0]
  · obtain ⟨a1, a2⟩ := h.2.2 (by omega)
    obtain ⟨b1, b2⟩ := h'.2.2 (by omega)
    rcases Nat.lt_trichotomy L L' with c | c | c
    · have : 2 ^ L ≤ 2 ^ (L' - 1) := Nat.pow_le_pow_right (by decide) (by omega)
      have := h.1
      omega
    · exact c
    · have : 2 ^ L' ≤ 2 ^ (L - 1) := Nat.pow_le_pow_right (by decide) (by omega)
      have := h'.1
      omega

theorem nf_split (f : Nat → Nat) (n : Nat) : nf f (n + 1) = nf f n + 4294967296 ^ n * f n := rfl
theorem pow32 (n : Nat) : 4294967296 ^ n = 2 ^ (32 * n) := by rw [Nat.pow_mul]

theorem bits_top {m n x k : Nat} (hn : (dig m).length = n + 1) (hx : (dig m).getD n 0 = x) (hk : BitsOf x k) (hx0 : x ≠ 0) : BitsOf m (32 * n + k) := by
  have e : m = nf (fun i => (dig m).getD i 0) n + 4294967296 ^ n * x := by
    have h := dig_nf m
    rw [hn, nf, hx] at h
    exact h.symm
  have hl := nf_lt (f := fun i => (dig m).getD i 0) (n := n) fun i _ => dig_word m i
  obtain ⟨h1, _, h3⟩ := hk
  obtain ⟨h4, h5⟩ := h3 (by omega)
  rw [pow32] at e hl
  have e1 : 2 ^ (32 * n + k) = 2 ^ (32 * n) * 2 ^ k := Nat.pow_add ..
  have e2 : 2 ^ (32 * n + k - 1) = 2 ^ (32 * n) * 2 ^ (k - 1) := by rw [← Nat.pow_add]; congr 1; omega
  have h6 : 2 ^ (32 * n) * (x + 1) ≤ 2 ^ (32 * n) * 2 ^ k := Nat.mul_le_mul_left _ h1
  have h7 : 2 ^ (32 * n) * 2 ^ (k - 1) ≤ 2 ^ (32 * n) * x := Nat.mul_le_mul_left _ h5
  have h8 : 0 < 2 ^ (32 * n) := Nat.two_pow_pos _
  rw [Nat.mul_add] at h6
  have h9 : 2 ^ (32 * n) ≤ 2 ^ (32 * n) * x := Nat.le_mul_of_pos_right _ (by omega)
  refine ⟨by rw [e1]; omega, fun h => by omega, fun _ => ⟨by omega, by rw [e2]; omega⟩⟩

/-- The number that shr makes, a bit at a time. -/
theorem bits_step {x k t : Nat} (h : x / 2 ^ k = t) : x / 2 ^ (k + 1) = t / 2 := by
  rw [Nat.pow_succ, ← Nat.div_div_eq_div_mul, h]
theorem bits_end {x k : Nat} (h : x / 2 ^ k = 0) (h0 : k = 0 ∨ x / 2 ^ (k - 1) ≠ 0) : BitsOf x k := by
  have hp : 0 < 2 ^ k := Nat.two_pow_pos _
  have h1 : x < 2 ^ k := by
    rcases Nat.div_eq_zero_iff.1 h with h | h
    · omega
    · exact h
  refine ⟨h1, fun e => ?_, fun e => ?_⟩
  · rcases h0 with h0 | h0
    · exact h0
    · subst e; simp at h0
  · rcases h0 with h0 | h0
    · subst h0; simp at h1; omega
    · refine ⟨?_, ?_⟩
      · rcases Nat.eq_zero_or_pos k with h2 | h2
        · subst h2; simp at h1; omega
        · exact h2
      · rcases Nat.lt_or_ge x (2 ^ (k - 1)) with h2 | h2
        · exact absurd (Nat.div_eq_of_lt h2) h0
        · exact h2
theorem bits_le {x k t : Nat} (hx : x < 4294967296) (h : x / 2 ^ k = t) (ht : t ≠ 0) : k < 32 := by
  rcases Nat.lt_or_ge k 32 with h1 | h1
  · exact h1
  · have : 2 ^ 32 ≤ 2 ^ k := Nat.pow_le_pow_right (by decide) h1
    have : x / 2 ^ k = 0 := Nat.div_eq_of_lt (by omega)
    omega

def LenPost (w : World) (m : Nat) (e : Ending) (w' : World) : Prop := w' = w ∧ ∃ L, e = .returned (.int .i64 ((L : Nat) : Int)) ∧ BitsOf m L ∧ L ≤ 3200

theorem top_ne {m n : Nat} (h : (dig m).length = n + 1) : (dig m).getD n 0 ≠ 0 := by
  intro h0
  have e := dig_nf m
  rw [h, nf, h0] at e
  have hl := nf_lt (f := fun i => (dig m).getD i 0) (n := n) fun i _ => dig_word m i
  have := dig_high m n h
  omega

/-- The bits counted so far. -/
def BitInv (x k t : Nat) : Prop := x / 2 ^ k = t ∧ (k = 0 ∨ x / 2 ^ (k - 1) ≠ 0) ∧ k ≤ 32

set_option maxHeartbeats 1000000 in
theorem length_any (a : Option Addr) (n ca m : Nat) (w : World) (ha : Ru w a n ca (dig m)) (hn : n ≤ 100) :
    Calls Tryd.prog 69 #[.slice a n ca] w fun e w' => LenPost w m e w' := by
  have el := ha.len
  by_cases hn0 : n = 0
  · subst hn0
    have hm : m = 0 := dig_nil (List.eq_nil_of_length_eq_zero el)
    have HP : Hid (LenPost w m (.returned (.int .i64 0)) w) := ⟨rfl, 0, rfl, by subst hm; exact ⟨by decide, fun _ => rfl, fun h => by omega⟩, by omega⟩
    clear ha
    go_enter Tryd.func69, Tryd.ntmps69
    go_wp2_with fail
    go_ret
    exact HP.out
  · obtain ⟨g, rfl⟩ : ∃ g, n = g + 1 := ⟨n - 1, by omega⟩
    obtain ⟨ba, oa, rfl, hca⟩ := ha.at (i := g) (by omega)
    have hx := ha.word g
    have hx0 := top_ne el
    obtain ⟨x, hxx⟩ : ∃ x, (dig m).getD g 0 = x := ⟨_, rfl⟩
    have HF : Hid (∀ k, BitsOf x k → k ≤ 32 → LenPost w m (.returned (.int .i64 (((32 * g + k : Nat)) : Int))) w) := fun k hk hk2 => ⟨rfl, _, rfl, bits_top el hxx hk (by rw [← hxx]; exact hx0), by omega⟩
    rw [hxx] at hca hx
    have e1 : ((g + 1 : Nat) : Int) - 1 = (g : Int) := by omega
    have hz : (((g + 1 : Nat) : Int) == 0) = false := beq_eq_false_iff_ne.2 (by omega)
    clear ha el hx0 hxx
    go_enter Tryd.func69, Tryd.ntmps69
    go_wp2_with fail
    go_loop [3, 4] (fun nv tv => ∃ k t : Nat, nv = .int .i64 (k : Int) ∧ tv = .int .u32 (t : Int) ∧ t < 4294967296 ∧ BitInv x k t) (fun _ tv => (intOf tv).toNat)
    case atStart => exact ⟨0, x, rfl, rfl, hx, by simp, .inl rfl, by omega⟩
    case round =>
      obtain ⟨k, t, rfl, rfl, ht, hi⟩ := hrel
      by_cases ht0 : t = 0
      · subst ht0
        have HB : Hid (LenPost w m (.returned (.int .i64 (((32 * g + k : Nat)) : Int))) w) := HF.out k (bits_end hi.1 hi.2.1) hi.2.2
        have hk := hi.2.2
        have e2 : (g : Int) * 32 + (k : Int) = ((32 * g + k : Nat) : Int) := by omega
        clear hi HF
        go_wp2_with fail
        go_ret
        first | exact HB.out | (rw [e2]; exact HB.out)
      · have hk := bits_le hx hi.1 ht0
        have HN : Hid (BitInv x (k + 1) (t / 2)) := ⟨bits_step hi.1, .inr (by rw [Nat.add_sub_cancel, hi.1]; exact ht0), by omega⟩
        have hb : ((t : Int) != 0) = true := bne_iff_ne.2 (by omega)
        have e2 : (t : Int) / 2 = ((t / 2 : Nat) : Int) := by omega
        have hlt2 : t / 2 < t := by omega
        clear hi
        generalize t / 2 = t2 at *
        go_wp2_with fail
        go_round
        case rel => exact ⟨k + 1, t2, by go_num, by first | rfl | rw [e2], by omega, HN.out⟩
        case measure => simp [intOf]; omega

end Go.Proofs.YtmpjmcfgikmgnaaDoor.words
namespace Go.Proofs.YtmpjmcfgikmgnaaDoor.words
open Go.RowKit
set_option maxRecDepth 100000

theorem or_low {r q s : Nat} (hr : r < 2 ^ s) : r ||| q * 2 ^ s = r + q * 2 ^ s := by
  have h := Nat.shiftLeft_add_eq_or_of_lt hr q
  rw [Nat.shiftLeft_eq] at h
  rw [Nat.or_comm, ← h, Nat.add_comm]
theorem pow_parts {s : Nat} (hs : s < 32) : ∃ C, 4294967296 = 2 ^ s * C ∧ 0 < C := ⟨2 ^ (32 - s), by rw [← Nat.pow_add, show s + (32 - s) = 32 by omega], Nat.two_pow_pos _⟩

/-- A word times 2^s: its low word is a multiple of 2^s, its high word is below 2^s. -/
theorem shl_parts {x s : Nat} (hx : x < 4294967296) (hs : s < 32) : ∃ q hi, x * 2 ^ s % 4294967296 = q * 2 ^ s ∧ x * 2 ^ s / 4294967296 = hi ∧ hi < 2 ^ s ∧ q * 2 ^ s + 2 ^ s ≤ 4294967296 ∧ x * 2 ^ s < 18446744073709551616 := by
  obtain ⟨C, hC, hC0⟩ := pow_parts hs
  have hP : 0 < 2 ^ s := Nat.two_pow_pos _
  have hP2 : 2 ^ s ≤ 2 ^ 31 := Nat.pow_le_pow_right (by decide) (by omega)
  refine ⟨x % C, x * 2 ^ s / 4294967296, ?_, rfl, ?_, ?_, ?_⟩
  · rw [hC, Nat.mul_comm x, Nat.mul_mod_mul_left, Nat.mul_comm]
  · rw [Nat.div_lt_iff_lt_mul (by decide), Nat.mul_comm]
    exact Nat.mul_lt_mul_of_pos_left hx hP
  · have : x % C < C := Nat.mod_lt _ hC0
    rw [hC, ← Nat.succ_mul, Nat.mul_comm]
    exact Nat.mul_le_mul_left _ this
  · have : x * 2 ^ s ≤ x * 2 ^ 31 := Nat.mul_le_mul_left _ hP2
    omega

theorem or32_low {r q s : Nat} (hr : r < 2 ^ s) (hq : q * 2 ^ s + 2 ^ s ≤ 4294967296) : bits .or .u32 (r : Int) ((q * 2 ^ s : Nat) : Int) = ((r + q * 2 ^ s : Nat) : Int) := by
  rw [or32 r (q * 2 ^ s) (by omega) (by omega), or_low hr]
theorem or32_zero {r : Nat} (hr : r < 4294967296) : bits .or .u32 0 (r : Int) = (r : Int) := by
  have := or32 0 r (by omega) (by omega)
  rw [Nat.zero_or] at this
  exact this

/-- A word more, shifted up. -/
theorem left_step {N W P A I x lo hi r z : Nat} (h : N = W * P * A) (hv : lo + 4294967296 * hi = x * P) (hz : z = r + lo) {N0 : Nat} (hN : N = N0 + W * I * r) :
    (N0 + W * I * z) + W * I * 4294967296 * hi = W * P * (A + I * x) := by
  rw [hz, Nat.mul_add (W * I), Nat.mul_assoc (W * I) 4294967296 hi, Nat.mul_add (W * P), ← h, hN]
  have : W * P * (I * x) = W * I * (x * P) := by
    rw [Nat.mul_assoc, Nat.mul_assoc, Nat.mul_left_comm P I x, Nat.mul_comm P x]
  rw [this, ← hv, Nat.mul_add]
  omega

/-- The words so far of a number shifted up. -/
def LeftInv (la : List Nat) (n wd s i : Nat) (f : Nat → Nat) : Prop := (∀ j, j < n + wd + 1 → f j < 4294967296) ∧ (∀ j, i + wd < j → f j = 0) ∧ f (i + wd) < 2 ^ s ∧ nf f (i + wd + 1) = 4294967296 ^ wd * 2 ^ s * nf (fun j => la.getD j 0) i

theorem left_next {la : List Nat} {n wd s i : Nat} {f : Nat → Nat} (h : LeftInv la n wd s i f) {q hi : Nat} (hl : la.getD i 0 * 2 ^ s % 4294967296 = q * 2 ^ s) (hh : la.getD i 0 * 2 ^ s / 4294967296 = hi) (h1 : hi < 2 ^ s) (h2 : q * 2 ^ s + 2 ^ s ≤ 4294967296) :
    LeftInv la n wd s (i + 1) (updU (updU f (i + wd) (f (i + wd) + q * 2 ^ s)) (i + wd + 1) hi) := by
  obtain ⟨b1, b2, b3, b4⟩ := h
  have hs : 2 ^ s ≤ 4294967296 := by omega
  refine ⟨fun j hj => ?_, fun j hj => ?_, ?_, ?_⟩
  · unfold updU
    split
    · omega
    · split
      · omega
      · exact b1 j hj
  · unfold updU
    rw [if_neg (by omega), if_neg (by omega)]
    exact b2 j (by omega)
  · rw [show i + 1 + wd = i + wd + 1 by omega]
    unfold updU
    rw [if_pos rfl]
    exact h1
  · rw [show i + 1 + wd + 1 = (i + wd + 1) + 1 by omega, nf, nf, nf]
    have e1 : nf (updU (updU f (i + wd) (f (i + wd) + q * 2 ^ s)) (i + wd + 1) hi) (i + wd) = nf f (i + wd) := nf_congr fun j hj => by
      unfold updU
      rw [if_neg (by omega), if_neg (by omega)]
    have e2 : updU (updU f (i + wd) (f (i + wd) + q * 2 ^ s)) (i + wd + 1) hi (i + wd) = f (i + wd) + q * 2 ^ s := by
      unfold updU
      rw [if_neg (by omega), if_pos rfl]
    have e3 : updU (updU f (i + wd) (f (i + wd) + q * 2 ^ s)) (i + wd + 1) hi (i + wd + 1) = hi := by
      unfold updU
      rw [if_pos rfl]
    rw [e1, e2, e3]
    rw [nf] at b4
    have hp : 4294967296 ^ (i + wd) = 4294967296 ^ wd * 4294967296 ^ i := by rw [← Nat.pow_add, Nat.add_comm]
    have hp1 : 4294967296 ^ (i + wd + 1) = 4294967296 ^ wd * 4294967296 ^ i * 4294967296 := by rw [Nat.pow_succ, hp]
    rw [hp] at b4
    rw [hp, hp1]
    have hv : q * 2 ^ s + 4294967296 * hi = la.getD i 0 * 2 ^ s := by rw [← hl, ← hh]; omega
    exact left_step (N := nf f (i + wd) + 4294967296 ^ wd * 4294967296 ^ i * f (i + wd)) (A := nf (fun j => la.getD j 0) i) (I := 4294967296 ^ i) (x := la.getD i 0) (r := f (i + wd)) b4 hv rfl rfl

theorem left_end {la : List Nat} {n wd s : Nat} {f : Nat → Nat} (h : LeftInv la n wd s n f) (hl : la.length ≤ n) : nv ((List.range (n + wd + 1)).map f) = nv la * 2 ^ (32 * wd + s) := by
  rw [nv_range, h.2.2.2, ← nv_more la hl, pow32, ← Nat.pow_add, Nat.mul_comm]

set_option maxHeartbeats 2000000 in
theorem left_some (a : Option Addr) (n ca wd s : Nat) (la : List Nat) (w : World) (ha : Ru w a n ca la) (n0 : n ≠ 0) (hn : n ≤ 100) (hw : wd ≤ 100) (hs : s < 32) :
    Calls Tryd.prog 88 #[.slice a n ca, .int .u64 ((32 * wd + s : Nat) : Int)] w fun e w' => Gives w (nv la * 2 ^ (32 * wd + s)) e w' := by
  obtain ⟨i0, hi, hz0, hz1, hz2⟩ := info_parts info_u32
  have HA : Hid (Ru w a n ca la) := ha
  have z1 : ((n : Int) == 0) = false := beq_eq_false_iff_ne.2 (by omega)
  have ew : ((32 * wd + s : Nat) : Int) / 32 = (wd : Int) := by omega
  have es : ((32 * wd + s : Nat) : Int) % 32 = (s : Int) := by omega
  have HFin : Hid (∀ f, LeftInv la n wd s n f → nv ((List.range (n + wd + 1)).map f) = nv la * 2 ^ (32 * wd + s)) := fun f h => left_end h (by rw [HA.out.len]; exact Nat.le_refl _)
  generalize 2 ^ (32 * wd + s) = PP at *
  have hsh : 32 * wd + s < 4000 := by omega
  generalize 32 * wd + s = sft at *
  clear ha
  go_enter Tryd.func88, Tryd.ntmps88
  go_wp2_with (first
    | (at_make; refine wpList_make_full _ rfl _ _ 59 rfl w.heap.size 28 i0 (.int .u32 0) 1 Tryd.underlying59 hi hz0 hz1 _ _ _ _ (n + wd + 1) rfl rfl ?c0 ?c1 ?c2 ?c3 ?c4 ?_))
  try (case c0 => first | rfl | (congr 1; omega))
  try (case c1 => first | rfl | (congr 1; omega))
  case c2 => first | omega | (rw [hz2]; omega)
  case c3 => unfold maxLen; omega
  try (case c4 => simp)
  intro w1 hown hgr
  have HR1 : Hid (RowU w1 w.heap.size (n + wd + 1) (fun _ => 0)) := rowU_made hown
  have HB1 : Hid (Below w.heap.size w w1) := (Below.refl _ _).grown hgr (Nat.le_refl _) (fun k hk => by cases hk)
  clear hown hgr hi hz0 hz1 hz2
  go_wp2_with fail
  go_loopw [8] (fun iv wr => ∃ (i : Nat) (f : Nat → Nat), i ≤ n ∧ iv = .int .i64 i ∧ RowU wr w.heap.size (n + wd + 1) f ∧ Below w.heap.size w wr ∧ LeftInv la n wd s i f) (fun iv _ => n - (intOf iv).toNat)
  case atStart => exact ⟨0, fun _ => 0, Nat.zero_le _, rfl, HR1.out, HB1.out, fun _ _ => (by decide : 0 < 4294967296), fun _ _ => rfl, Nat.two_pow_pos _, by rw [nf_zero fun _ _ => rfl, nf, Nat.mul_zero]⟩
  case round =>
    obtain ⟨i, f, hin, rfl, hrow, hb, hinv⟩ := hrel
    by_cases hlt : i < n
    · obtain ⟨ba, oa, rfl, hca⟩ := (HA.out.below hb).at hlt
      have hx := HA.out.word i
      obtain ⟨q, hi, hq, hhi, hh1, hq2, hv⟩ := shl_parts hx hs
      have hnx := left_next hinv hq hhi hh1 hq2
      have r0 := hrow.cell (i := i + wd) (by omega)
      have f0 := hrow.free (i + wd)
      have rr := hrow.set (i + wd) (f (i + wd) + q * 2 ^ s)
      have r1 := rr.cell (i := i + wd + 1) (by omega)
      have f1 := rr.free (i + wd + 1)
      have HN : Hid (RowU ((wr.setCell ⟨w.heap.size, i + wd, none⟩ (.int .u32 ((f (i + wd) + q * 2 ^ s : Nat) : Int))).setCell ⟨w.heap.size, i + wd + 1, none⟩ (.int .u32 (hi : Int))) w.heap.size (n + wd + 1) (updU (updU f (i + wd) (f (i + wd) + q * 2 ^ s)) (i + wd + 1) hi)) := rr.set _ _
      have HBN : Hid (Below w.heap.size w ((wr.setCell ⟨w.heap.size, i + wd, none⟩ (.int .u32 ((f (i + wd) + q * 2 ^ s : Nat) : Int))).setCell ⟨w.heap.size, i + wd + 1, none⟩ (.int .u32 (hi : Int)))) := below_set (below_set hb _ _ _ (Nat.le_refl _)) _ _ _ (Nat.le_refl _)
      have HI : Hid (LeftInv la n wd s (i + 1) (updU (updU f (i + wd) (f (i + wd) + q * 2 ^ s)) (i + wd + 1) hi)) := hnx
      have eu : updU f (i + wd) (f (i + wd) + q * 2 ^ s) (i + wd + 1) = 0 := by
        unfold updU
        rw [if_neg (by omega)]
        exact hinv.2.1 _ (by omega)
      rw [eu] at r1
      have hor := or32_low hinv.2.2.1 hq2
      have hhl : hi < 4294967296 := by omega
      have hor2 := or32_zero hhl
      obtain ⟨x, hxx⟩ : ∃ x, la.getD i 0 = x := ⟨_, rfl⟩
      rw [hxx] at hca hx hq hhi hv
      have hshl : IntKind.u64.wrap ((x : Int) * 2 ^ s) = ((x * 2 ^ s : Nat) : Int) := by
        rw [IntKind.wrap_u64]
        have : (x : Int) * 2 ^ s = ((x * 2 ^ s : Nat) : Int) := by simp
        rw [this]
        omega
      have hz : f (i + wd) + q * 2 ^ s < 4294967296 := by have := hinv.2.2.1; omega
      have fb := hinv.1 (i + wd) (by omega)
      clear hnx hinv rr hrow hb eu hxx hq2 hh1
      obtain ⟨z, hzz⟩ : ∃ z, f (i + wd) + q * 2 ^ s = z := ⟨_, rfl⟩
      rw [hzz] at HN HBN HI hor hz r1 f1
      obtain ⟨lo, hlo⟩ : ∃ lo, q * 2 ^ s = lo := ⟨_, rfl⟩
      rw [hlo] at hq hor
      obtain ⟨v, hvv⟩ : ∃ v, x * 2 ^ s = v := ⟨_, rfl⟩
      rw [hvv] at hq hhi hv hshl
      obtain ⟨r, hrr⟩ : ∃ r, f (i + wd) = r := ⟨_, rfl⟩
      rw [hrr] at r0 hor fb
      clear hzz hlo hvv hrr
      have e1 : ((v : Nat) : Int) % 4294967296 = (lo : Int) := by omega
      have e2 : ((v : Nat) : Int) / 4294967296 = (hi : Int) := by omega
      have e3 : ((hi : Nat) : Int) % 4294967296 = (hi : Int) := by omega
      clear hq hhi
      go_wp2_with fail
      go_roundw
      case rel => exact ⟨i + 1, _, by omega, by go_num, HN.out, HBN.out, HI.out⟩
      case measure => simp [intOf]; omega
    · obtain rfl : i = n := by omega
      have HN : Hid (Ru wr (some ⟨w.heap.size, 0, none⟩) (i + wd + 1) (i + wd + 1) ((List.range (i + wd + 1)).map f)) := hrow.ru hinv.1
      have HB : Hid (Below w.heap.size w wr) := hb
      have HE : Hid (nv ((List.range (i + wd + 1)).map f) = nv la * PP) := HFin.out f hinv
      clear hrow hb hinv hlt
      go_wp2_with fail
      refine (trim_any _ _ _ _ _ HN.out (by omega)).mono ?_
      rintro e w3 ⟨a3, n3, c3, rfl, hr3, hb3⟩
      rw [HE.out] at hr3
      have HG : Hid (Gives w (nv la * PP) (.returned (.slice a3 n3 c3)) w3) := Gives.mk hr3 (HB.out.trans (hb3.mono HB.out.size))
      clear hr3 hb3
      go_wp2_with fail
      go_ret
      exact HG.out

theorem left_any (a : Option Addr) (n ca wd s : Nat) (la : List Nat) (w : World) (ha : Ru w a n ca la) (hn : n ≤ 100) (hw : wd ≤ 100) (hs : s < 32) :
    Calls Tryd.prog 88 #[.slice a n ca, .int .u64 ((32 * wd + s : Nat) : Int)] w fun e w' => Gives w (nv la * 2 ^ (32 * wd + s)) e w' := by
  by_cases n0 : n = 0
  · subst n0
    have el : la = [] := List.eq_nil_of_length_eq_zero ha.len
    have HG : Hid (Gives w (nv la * 2 ^ (32 * wd + s)) (.returned (.slice none 0 0)) w) := Gives.mk (by rw [el, nv, Nat.zero_mul, dig_zero]; exact ru_nil w) (Below.refl _ _)
    clear ha el
    generalize nv la * 2 ^ (32 * wd + s) = M at *
    generalize ((32 * wd + s : Nat) : Int) = sft at *
    go_enter Tryd.func88, Tryd.ntmps88
    go_wp2_with fail
    go_ret
    exact HG.out
  · exact left_some a n ca wd s la w ha n0 hn hw hs

end Go.Proofs.YtmpjmcfgikmgnaaDoor.words
namespace Go.Proofs.YtmpjmcfgikmgnaaDoor.words
open Go.RowKit
set_option maxRecDepth 100000

theorem or_words' (n x : Int) (n0 : 0 ≤ n) (n1 : n < 4294967296) (x0 : 0 ≤ x) (x1 : x < 4294967296) : bits .or .u64 x (n * 4294967296) = n * 4294967296 + x := by
  obtain ⟨p, rfl⟩ := Int.eq_ofNat_of_zero_le n0
  obtain ⟨q, rfl⟩ := Int.eq_ofNat_of_zero_le x0
  have e : ((p : Int) * 4294967296) = ((p * 4294967296 : Nat) : Int) := by simp
  rw [e, or64 _ _ (by omega) (by omega)]
  have h := Nat.shiftLeft_add_eq_or_of_lt (show q < 2 ^ 32 by omega) p
  rw [Nat.shiftLeft_eq] at h
  have h2 : p * 4294967296 ||| q = p * 4294967296 + q := h.symm
  rw [Nat.or_comm, h2]; simp

theorem right_sum {a b c X C : Nat} (h1 : a < C) (h2 : c + C ≤ 4294967296) : (a + (4294967296 * b + c)) % 4294967296 + 4294967296 * X = a + (4294967296 * X + c) := by omega
theorem right_arith {f0 f1 X P C : Nat} (hB : 4294967296 = P * C) (hP : 0 < P) (h0 : f0 < 4294967296) (hx : X % P = f1 % P) : ((f0 + 4294967296 * f1) / P) % 4294967296 + 4294967296 * (X / P) = (f0 + 4294967296 * X) / P := by
  have e0 : ∀ y, 4294967296 * y = P * (C * y) := fun y => by rw [← Nat.mul_assoc, ← hB]
  have e1 : ∀ y, (f0 + 4294967296 * y) / P = f0 / P + C * y := fun y => by
    rw [e0, Nat.add_mul_div_left _ _ hP]
  have e2 : ∀ y, C * y = 4294967296 * (y / P) + C * (y % P) := fun y => by
    rw [e0, Nat.mul_left_comm, ← Nat.mul_add, Nat.div_add_mod]
  have hC : f0 / P < C := Nat.div_lt_of_lt_mul (by rw [← hB]; exact h0)
  have hm : f1 % P < P := Nat.mod_lt _ hP
  have hl : C * (f1 % P) + C ≤ 4294967296 := by
    have h3 : C * (f1 % P + 1) ≤ C * P := Nat.mul_le_mul_left _ hm
    rw [Nat.mul_comm C P, ← hB] at h3
    exact h3
  have a1 := e1 f1
  have a2 := e1 X
  have a3 := e2 f1
  have a4 := e2 X
  rw [a1, a2, a3, a4, hx]
  exact right_sum hC hl

theorem right_mod {P C : Nat} (hB : 4294967296 = P * C) (a X : Nat) : (a + 4294967296 * X) % P = a % P := by
  have e0 : 4294967296 * X = P * (C * X) := by rw [← Nat.mul_assoc, ← hB]
  rw [e0, Nat.add_mul_mod_self_left]

theorem right_nf {P C : Nat} (hB : 4294967296 = P * C) (hP : 0 < P) (n : Nat) : ∀ (f : Nat → Nat), (∀ i, f i < 4294967296) → (∀ i, n ≤ i → f i = 0) → nf (fun j => ((f j + 4294967296 * f (j + 1)) / P) % 4294967296) n = nf f n / P := by
  induction n with
  | zero => intro f _ _; rw [nf, nf, Nat.zero_div]
  | succ n ih =>
    intro f h hz
    have ih' := ih (fun i => f (i + 1)) (fun i => h _) fun i hi => hz _ (by omega)
    have hx : nf (fun i => f (i + 1)) n % P = f 1 % P := by
      cases n with
      | zero => rw [nf, hz 1 (Nat.le_refl _)]
      | succ n =>
        rw [nf_cons]
        exact right_mod hB _ _
    rw [nf_cons, nf_cons f, ih']
    exact right_arith hB hP (h 0) hx

theorem hf_key (f : Nat → Nat) (i k : Nat) : nf f (i + k) = nf f i + 4294967296 ^ i * nf (fun j => f (i + j)) k := by
  induction k with
  | zero => rw [nf, Nat.mul_zero]; rfl
  | succ k ih => rw [← Nat.add_assoc, nf, ih, nf, Nat.mul_add, ← Nat.mul_assoc, ← Nat.pow_add, Nat.add_assoc]
theorem div_split {a p h : Nat} (hp : 0 < p) (ha : a < p) : (a + p * h) / p = h := by
  rw [Nat.add_mul_div_left _ _ hp, Nat.div_eq_of_lt ha, Nat.zero_add]
theorem hf_div {f : Nat → Nat} (hf' : ∀ i, f i < 4294967296) {i n : Nat} (h : i ≤ n) : hf f i n = nf f n / 4294967296 ^ i := by
  have key := hf_key f i (n - i)
  rw [Nat.add_sub_cancel' h] at key
  have hlt := nf_lt (f := f) (n := i) fun j _ => hf' j
  rw [key]
  exact (div_split (Nat.lt_of_le_of_lt (Nat.zero_le _) hlt) hlt).symm

/-- The words so far of a number shifted down. -/
def RightInv (la : List Nat) (n wd s i : Nat) (f : Nat → Nat) : Prop := (∀ j, j < n - wd → f j < 4294967296) ∧ ∀ j, j < i → f j = ((la.getD (j + wd) 0 + 4294967296 * la.getD (j + wd + 1) 0) / 2 ^ s) % 4294967296

theorem right_end {la : List Nat} {n wd s : Nat} {f : Nat → Nat} (h : RightInv la n wd s (n - wd) f) (hl : la.length = n) (hw : wd < n) (hs : s < 32) (hlt : ∀ i, la.getD i 0 < 4294967296) : nv ((List.range (n - wd)).map f) = nv la / 2 ^ (32 * wd + s) := by
  obtain ⟨C, hC, _⟩ := pow_parts hs
  rw [nv_range, nf_congr h.2, Nat.pow_add, ← pow32, ← Nat.div_div_eq_div_mul, nv_nf, hl, ← hf_div hlt (by omega)]
  unfold hf
  have := right_nf hC (Nat.two_pow_pos s) (n - wd) (fun j => la.getD (wd + j) 0) (fun i => hlt _) (fun i hi => by
    simp [List.getD, List.getElem?_eq_none (show la.length ≤ wd + i by omega)])
  rw [← this]
  exact nf_congr fun j _ => by rw [Nat.add_comm j wd, show wd + j + 1 = wd + (j + 1) by omega]

theorem right_small {la : List Nat} {n wd s : Nat} (hl : la.length = n) (hw : n ≤ wd) (hlt : ∀ i, la.getD i 0 < 4294967296) : nv la / 2 ^ (32 * wd + s) = 0 := by
  apply Nat.div_eq_of_lt
  have h1 := nf_lt (f := fun i => la.getD i 0) (n := n) fun i _ => hlt i
  rw [nv_nf, hl]
  rw [pow32] at h1
  exact Nat.lt_of_lt_of_le h1 (Nat.pow_le_pow_right (by decide) (by omega))

theorem right_next {la : List Nat} {n wd s i v : Nat} {f : Nat → Nat} (h : RightInv la n wd s i f) (hv : la.getD (i + wd) 0 + 4294967296 * la.getD (i + wd + 1) 0 = v) : RightInv la n wd s (i + 1) (updU f i (v / 2 ^ s % 4294967296)) := by
  refine ⟨fun j hj => ?_, fun j hj => ?_⟩
  · unfold updU
    split
    · omega
    · exact h.1 j hj
  · unfold updU
    split
    · next e => subst e; rw [hv]
    · exact h.2 j (by omega)

set_option maxHeartbeats 2000000 in
theorem right_some (a : Option Addr) (n ca wd s : Nat) (la : List Nat) (w : World) (ha : Ru w a n ca la) (hn : n ≤ 200) (hw : wd < n) (hs : s < 32) :
    Calls Tryd.prog 89 #[.slice a n ca, .int .u64 ((32 * wd + s : Nat) : Int)] w fun e w' => Gives w (nv la / 2 ^ (32 * wd + s)) e w' := by
  obtain ⟨i0, hi, hz0, hz1, hz2⟩ := info_parts info_u32
  have HA : Hid (Ru w a n ca la) := ha
  have ew : ((32 * wd + s : Nat) : Int) / 32 = (wd : Int) := by omega
  have es : ((32 * wd + s : Nat) : Int) % 32 = (s : Int) := by omega
  have HFin : Hid (∀ f, RightInv la n wd s (n - wd) f → nv ((List.range (n - wd)).map f) = nv la / 2 ^ (32 * wd + s)) := fun f h => right_end h HA.out.len hw hs HA.out.word
  generalize 2 ^ (32 * wd + s) = PP at *
  have hsh : 32 * wd + s < 10000 := by omega
  generalize 32 * wd + s = sft at *
  have hge : ¬ (n : Int) ≤ (wd : Int) := by omega
  obtain ⟨K, hK⟩ : ∃ K, n - wd = K := ⟨_, rfl⟩
  have eK : (n : Int) - (wd : Int) = (K : Int) := by omega
  clear ha
  rw [hK] at HFin
  go_enter Tryd.func89, Tryd.ntmps89
  go_wp2_with (first
    | (at_make; refine wpList_make_full _ rfl _ _ 59 rfl w.heap.size 28 i0 (.int .u32 0) 1 Tryd.underlying59 hi hz0 hz1 _ _ _ _ K rfl rfl ?c0 ?c1 ?c2 ?c3 ?c4 ?_))
  try (case c0 => first | rfl | (congr 1; omega))
  try (case c1 => first | rfl | (congr 1; omega))
  case c2 => first | omega | (rw [hz2]; omega)
  case c3 => unfold maxLen; omega
  try (case c4 => simp)
  intro w1 hown hgr
  have HR1 : Hid (RowU w1 w.heap.size K (fun _ => 0)) := rowU_made hown
  have HB1 : Hid (Below w.heap.size w w1) := (Below.refl _ _).grown hgr (Nat.le_refl _) (fun k hk => by cases hk)
  clear hown hgr hi hz0 hz1 hz2
  go_wp2_with fail
  go_loopw [8] (fun iv wr => ∃ (i : Nat) (f : Nat → Nat), i ≤ K ∧ iv = .int .i64 i ∧ RowU wr w.heap.size K f ∧ Below w.heap.size w wr ∧ RightInv la n wd s i f) (fun iv _ => K - (intOf iv).toNat)
  case atStart => exact ⟨0, fun _ => 0, Nat.zero_le _, rfl, HR1.out, HB1.out, fun _ _ => (by decide : 0 < 4294967296), fun j hj => by omega⟩
  case round =>
    obtain ⟨i, f, hin, rfl, hrow, hb, hinv⟩ := hrel
    by_cases hlt : i < K
    · obtain ⟨ba, oa, rfl, hca⟩ := (HA.out.below hb).at (i := i + wd) (by omega)
      have hx := HA.out.word (i + wd)
      have r0 := hrow.cell (i := i) (by omega)
      have f0 := hrow.free i
      obtain ⟨fi, hfi⟩ : ∃ fi : Int, ((f i : Nat) : Int) = fi := ⟨_, rfl⟩
      rw [hfi] at r0
      clear hfi
      by_cases hmo : i + wd + 1 < n
      · obtain ⟨bb, ob, hab, hcb⟩ := (HA.out.below hb).at (i := i + wd + 1) hmo
        simp only [Option.some.injEq, Addr.mk.injEq, and_true] at hab
        obtain ⟨rfl, rfl⟩ := hab
        have hy := HA.out.word (i + wd + 1)
        obtain ⟨v, hv⟩ : ∃ v, la.getD (i + wd) 0 + 4294967296 * la.getD (i + wd + 1) 0 = v := ⟨_, rfl⟩
        have hnx := right_next hinv hv
        obtain ⟨x, hxx⟩ : ∃ x, la.getD (i + wd) 0 = x := ⟨_, rfl⟩
        obtain ⟨y, hyy⟩ : ∃ y, la.getD (i + wd + 1) 0 = y := ⟨_, rfl⟩
        rw [hxx] at hca hx hv
        rw [hyy] at hcb hy hv
        have hor := or_words' y x (by omega) (by omega) (by omega) (by omega)
        have ev : (y : Int) * 4294967296 + (x : Int) = (v : Int) := by omega
        rw [ev] at hor
        have hsr : (v : Int) / 2 ^ s = ((v / 2 ^ s : Nat) : Int) := by simp
        have hvl : v < 18446744073709551616 := by omega
        have hq : v / 2 ^ s ≤ v := Nat.div_le_self _ _
        obtain ⟨q, hqq⟩ : ∃ q, v / 2 ^ s = q := ⟨_, rfl⟩
        rw [hqq] at hnx hsr hq
        obtain ⟨z, hzz⟩ : ∃ z, q % 4294967296 = z := ⟨_, rfl⟩
        rw [hzz] at hnx
        have e1 : (q : Int) % 4294967296 = (z : Int) := by omega
        have HN : Hid (RowU (wr.setCell ⟨w.heap.size, i, none⟩ (.int .u32 ((z : Nat) : Int))) w.heap.size K (updU f i z)) := hrow.set _ _
        have HBN : Hid (Below w.heap.size w (wr.setCell ⟨w.heap.size, i, none⟩ (.int .u32 ((z : Nat) : Int)))) := below_set hb _ _ _ (Nat.le_refl _)
        have HI : Hid (RightInv la n wd s (i + 1) (updU f i z)) := hnx
        have hmi : (i : Int) + (wd : Int) + 1 < (n : Int) := by omega
        clear hnx hinv hrow hb hxx hyy hqq hzz hv ev
        go_wp2_with fail
        go_roundw
        case rel => exact ⟨i + 1, _, by omega, by go_num, HN.out, HBN.out, HI.out⟩
        case measure => simp [intOf]; omega
      · have hy0 : la.getD (i + wd + 1) 0 = 0 := by simp [List.getD, List.getElem?_eq_none (show la.length ≤ i + wd + 1 by rw [HA.out.len]; omega)]
        obtain ⟨v, hv⟩ : ∃ v, la.getD (i + wd) 0 + 4294967296 * la.getD (i + wd + 1) 0 = v := ⟨_, rfl⟩
        have hnx := right_next hinv hv
        rw [hy0] at hv
        have hv' : la.getD (i + wd) 0 = v := by omega
        rw [hv'] at hca hx
        have hsr : (v : Int) / 2 ^ s = ((v / 2 ^ s : Nat) : Int) := by simp
        have hq : v / 2 ^ s ≤ v := Nat.div_le_self _ _
        obtain ⟨q, hqq⟩ : ∃ q, v / 2 ^ s = q := ⟨_, rfl⟩
        rw [hqq] at hnx hsr hq
        have hqb : q % 4294967296 = q := by omega
        rw [hqb] at hnx
        have e1 : (q : Int) % 4294967296 = (q : Int) := by omega
        have HN : Hid (RowU (wr.setCell ⟨w.heap.size, i, none⟩ (.int .u32 ((q : Nat) : Int))) w.heap.size K (updU f i q)) := hrow.set _ _
        have HBN : Hid (Below w.heap.size w (wr.setCell ⟨w.heap.size, i, none⟩ (.int .u32 ((q : Nat) : Int)))) := below_set hb _ _ _ (Nat.le_refl _)
        have HI : Hid (RightInv la n wd s (i + 1) (updU f i q)) := hnx
        have hmi : ¬ (i : Int) + (wd : Int) + 1 < (n : Int) := by omega
        clear hnx hinv hrow hb hqq hqb hv hv' hy0
        go_wp2_with fail
        go_roundw
        case rel => exact ⟨i + 1, _, by omega, by go_num, HN.out, HBN.out, HI.out⟩
        case measure => simp [intOf]; omega
    · obtain rfl : i = K := by omega
      have HN : Hid (Ru wr (some ⟨w.heap.size, 0, none⟩) i i ((List.range i).map f)) := hrow.ru (by have h := hinv.1; rw [hK] at h; exact h)
      have HB : Hid (Below w.heap.size w wr) := hb
      have HE : Hid (nv ((List.range i).map f) = nv la / PP) := HFin.out f hinv
      clear hrow hb hinv hlt
      go_wp2_with fail
      refine (trim_any _ _ _ _ _ HN.out (by omega)).mono ?_
      rintro e w3 ⟨a3, n3, c3, rfl, hr3, hb3⟩
      rw [HE.out] at hr3
      have HG : Hid (Gives w (nv la / PP) (.returned (.slice a3 n3 c3)) w3) := Gives.mk hr3 (HB.out.trans (hb3.mono HB.out.size))
      clear hr3 hb3
      go_wp2_with fail
      go_ret
      exact HG.out

theorem right_any (a : Option Addr) (n ca wd s : Nat) (la : List Nat) (w : World) (ha : Ru w a n ca la) (hn : n ≤ 200) (hw : wd ≤ 100) (hs : s < 32) :
    Calls Tryd.prog 89 #[.slice a n ca, .int .u64 ((32 * wd + s : Nat) : Int)] w fun e w' => Gives w (nv la / 2 ^ (32 * wd + s)) e w' := by
  by_cases n0 : wd < n
  · exact right_some a n ca wd s la w ha hn n0 hs
  · have HG : Hid (Gives w (nv la / 2 ^ (32 * wd + s)) (.returned (.slice none 0 0)) w) := Gives.mk (by rw [right_small ha.len (by omega) ha.word, dig_zero]; exact ru_nil w) (Below.refl _ _)
    have ew : ((32 * wd + s : Nat) : Int) / 32 = (wd : Int) := by omega
    have es : ((32 * wd + s : Nat) : Int) % 32 = (s : Int) := by omega
    have hge : (n : Int) ≤ (wd : Int) := by omega
    clear ha
    generalize nv la / 2 ^ (32 * wd + s) = M at *
    have hsh : 32 * wd + s < 10000 := by omega
    generalize 32 * wd + s = sft at *
    go_enter Tryd.func89, Tryd.ntmps89
    go_wp2_with fail
    go_ret
    exact HG.out

end Go.Proofs.YtmpjmcfgikmgnaaDoor.words
