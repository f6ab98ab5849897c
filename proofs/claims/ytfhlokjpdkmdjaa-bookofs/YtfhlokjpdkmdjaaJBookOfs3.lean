import Derived.Test.YtfhlokjpdkmdjaaSh
import Derived.Test.YtfhlokjpdkmdjaaJBookOfs2
import Derived.Test.YtfhlokjpdkmdjaaJBookOfs1
import Derived.Test.YtfhlokjpdkmdjaaDbK
import Derived.Laws.AppendOwnNone
import Derived.Deep.DeepCutAuto
import Derived.Test.YtfhlokjpdkmdjaaAcGw
import Derived.WalkKit
import Derived.Test.YtfhlokjpdkmdjaaProg
import Derived.Test.YtfhlokjpdkmdjaaAcD
import Derived.Test.YtfhlokjpdkmdjaaAcU
import Derived.Deep.RegionHeld
import Derived.Below
import Derived.Test.YtfhlokjpdkmdjaaDbD
import Derived.Test.YtfhlokjpdkmdjaaBlk
import Derived.Test.YtfhlokjpdkmdjaaLet
import Derived.OwnWalk
import Derived.Deep.LoopGhost
import Derived.WalkMore
import Derived.Test.YtfhlokjpdkmdjaaTfD
import Derived.Sort.BigQuietIn
import Derived.RangeFuncCalls
import Derived.RangeFuncNested
import Derived.RangeFuncBound
import Derived.RangeFuncLeaves
import Derived.Shelf.Abstract
import Derived.Shelf.RegionOpen
import Derived.OwnWalkIn
import Derived.TacticsInMore
import Derived.LoopNIn
import Derived.LoopIn

/- An account is worked at. -/
namespace Go.Proofs.Ytfhlokjpdkmdjaa.acc
open Go.Proofs.Ytfhlokjpdkmdjaa.tar (Du du0 Came RowD Ld PairT)
open Go.RowKit
set_option maxRecDepth 100000
set_option linter.unusedVariables false
set_option linter.unusedSimpArgs false

/-- A copy of pairs: append(nil, l...), of whatever came in. -/
theorem wp_copyD {P : Program} {T S : TypeId} (hP : PairT P T S) {w : World} {ops : Array Oper} {rest : List Oper} {o : Oper} {a : Act} {Q : Exit → Act → World → Prop} (hgd : o.guard = none) (s x : Operand)
    (ho : o.op = .call { callee := .builtin .append, args := #[s, x], argTypes := #[S, S] })
    (base : Nat) (p : Option Addr) (len cap : Nat) (zs : List Du) (hs : a.eval s = .slice none 0 0) (hx : a.eval x = .slice p len cap) (hc : Came w p len cap zs) (hbase : base ≤ w.heap.size)
    (h : ∀ v' w', Ld T w' base v' zs → w.grownBy w' none → wpList P ops Q rest (a.put o.dst v') w') : wpList P ops Q (o :: rest) a w := by
  cases p with
  | some A => exact tar.wp_pairs hP hgd s x ho base A len cap zs hs hx hc.row hc.bytes hbase h
  | none =>
    have h0 := hc.nil rfl
    have h1 : len = 0 := by have := hc.room; omega
    have h2 : zs = [] := List.eq_nil_of_length_eq_zero (by have := hc.row.1; omega)
    subst h0 h1 h2
    have hu := hP.under
    have hi0 := hP.info
    cases hq : P.info? T with
    | none => rw [hq] at hi0; cases hi0
    | some i =>
      refine wpList_append_own_none hgd s x S ho base T i 2 hu hq (.slice none 0 0) 0 [] hs (World.ownsRow_nil _ _ _ _) hx ?_
      exact h _ _ (tar.Ld.zero _ _ _) ⟨rfl, rfl, rfl, Nat.le_refl _, fun _ _ _ => rfl⟩
set_option maxHeartbeats 4000000 in
theorem pwork (F : Nat) (caps : Array Value) (Is : Ac → Bi → Int → Prop) (x : Ac) (p : Option Addr) (len cap : Nat) (w : World) (hc : Came w p len cap x.ds) (h5 : ¬ AMay x → Is ac0 bi0 5) (hK : ∀ args w, (callFunc F args).run Try.prog w = .ok (.enter F args) w)
    (hf : AMay x → ∀ (W : World) (g : Nat) (p' : Option Addr) (cap' : Nat), Below w.heap.size w W → w.heap.size ≤ g → Blk W g (wcs x bi0 p' len cap') 134 → Ld 25 W (g + 1) (.slice p' len cap') x.ds → Calls Try.prog F (#[.pointer (some ⟨g, 0, none⟩)] ++ caps) W fun e w' => WPost W g (Or0 Is) e w') :
    Calls Try.prog 75 #[.agg #[.int .i64 x.me, .int .i64 x.rv, .int .i64 x.nx, .int .i64 x.mo, .int .i64 x.bo, .int .i64 x.fr, .slice p len cap], .func (.func F) #[] caps] w fun e w' => BPost w Is e w' := by
  have HFU : Hid (AMay x → ∀ (W : World) (g : Nat) (p' : Option Addr) (cap' : Nat), Below w.heap.size w W → w.heap.size ≤ g → Blk W g (wcs x bi0 p' len cap') 134 → Ld 25 W (g + 1) (.slice p' len cap') x.ds → Calls Try.prog F (#[.pointer (some ⟨g, 0, none⟩)] ++ caps) W fun e w' => WPost W g (Or0 Is) e w') := hf
  have HLEN : Hid (x.ds.length = len) := hc.row.1
  have H5 : Hid (¬ AMay x → Is ac0 bi0 5) := h5
  clear hf h5
  obtain ⟨W0, HWW, H0d, H0r, H0l, H0B, hs0⟩ := sh3 w #[.int .i64 x.me, .int .i64 x.rv, .int .i64 x.nx, .int .i64 x.mo, .int .i64 x.bo, .int .i64 x.fr, .slice p len cap] 55 #[.int .i64 0, .int .i64 0, .int .i64 0, .int .i64 0, .int .i64 0, .int .i64 0, .slice none 0 0] 55 #[.int .i64 0, .int .i64 0, .int .i64 0, .int .i64 0, .int .i64 0, .int .i64 0, .int .i64 0] 23
  have H0R : Hid (Came W0 p len cap x.ds) := hc.below H0B.out
  go_enter Try.func75, Try.ntmps75
  go_upto_region 1 with fail
  rw [HWW.out]
  clear HWW
  clear hc
  have HPM : Hid (Calls Try.prog 74 #[.agg #[.int .i64 x.me, .int .i64 x.rv, .int .i64 x.nx, .int .i64 x.mo, .int .i64 x.bo, .int .i64 x.fr, .slice p len cap]] W0 fun e w' => MayPost W0 x e w') := pmay x p len cap W0 H0R.out
  go_wp2_with (first
    | (refine wp_whole rfl 55 _ rfl _ rfl 55 _ _ H0d.out Try.underlying55 rfl (by kernel_rfl) ?_)
    | (refine wp_whole rfl 55 _ rfl _ rfl 55 _ _ H0r.out Try.underlying55 rfl (by kernel_rfl) ?_)
    | (refine wp_whole rfl 23 _ rfl _ rfl 23 _ _ H0l.out Try.underlying23 rfl (by kernel_rfl) ?_)
    | fail)
  refine HPM.out.mono ?_
  rintro e w1 ⟨r, rfl, hr, hb1⟩
  have H1d := shN H0d hb1
  have H1r := shN H0r hb1
  have H1l := shN H0l hb1
  have H1R : Hid (Came w1 p len cap x.ds) := H0R.out.below hb1
  have H1B := shB H0B hb1
  have hsw1 : W0.heap.size ≤ w1.heap.size := hb1.size
  clear hb1 H0d H0r H0l H0R H0B
  clear HPM
  cases r with
  | false =>
    have HV : Hid (Is ac0 bi0 5) := H5.out fun h => Bool.noConfusion (hr.2 h)
    clear hr H5 HFU hK
    go_wp2_with (first
      | (refine wp_letAll rfl 55 _ _ rfl _ rfl _ rfl (by kernel_rfl) (by simp [Value.oneCell']) _ 55 H1r.out rfl ?_)
      | (refine wp_whole rfl 55 _ rfl _ rfl 55 _ _ H1d.out Try.underlying55 rfl (by kernel_rfl) ?_)
      | (refine wp_whole rfl 55 _ rfl _ rfl 55 _ _ H1r.out Try.underlying55 rfl (by kernel_rfl) ?_)
      | (refine wp_whole rfl 23 _ rfl _ rfl 23 _ _ H1l.out Try.underlying23 rfl (by kernel_rfl) ?_)
      | fail)
    intro w1a hU
    have H2d := shK hU H1d (by omega)
    have H2r : Hid (Blk w1a (w.heap.size + 1) #[.int .i64 0, .int .i64 0, .int .i64 0, .int .i64 0, .int .i64 0, .int .i64 0, .slice none 0 0] 55) := hU.blk
    have H2l := shK hU H1l (by omega)
    have H2B := shV hU H1B (by omega)
    have hsw1a : w1a.heap.size = w1.heap.size := hU.size
    clear hU H1d H1r H1l H1R H1B
    go_wp2_with (first
      | (refine wp_letAll rfl 23 _ _ rfl _ rfl _ rfl (by kernel_rfl) (by simp [Value.oneCell']) _ 23 H2l.out rfl ?_)
      | (refine wp_whole rfl 55 _ rfl _ rfl 55 _ _ H2d.out Try.underlying55 rfl (by kernel_rfl) ?_)
      | (refine wp_whole rfl 55 _ rfl _ rfl 55 _ _ H2r.out Try.underlying55 rfl (by kernel_rfl) ?_)
      | (refine wp_whole rfl 23 _ rfl _ rfl 23 _ _ H2l.out Try.underlying23 rfl (by kernel_rfl) ?_)
      | fail)
    intro w1ab hU
    have H3d := shK hU H2d (by omega)
    have H3r := shK hU H2r (by omega)
    have H3l : Hid (Blk w1ab (w.heap.size + 1 + 1) #[.int .i64 0, .int .i64 0, .int .i64 0, .int .i64 0, .int .i64 0, .int .i64 0, .int .i64 0] 23) := hU.blk
    have H3B := shV hU H2B (by omega)
    have hsw1ab : w1ab.heap.size = w1a.heap.size := hU.size
    clear hU H2d H2r H2l H2B
    obtain ⟨Rr0, Rr1, Rr2, Rr3, Rr4, Rr5, Rr6⟩ := shc7 H3r
    obtain ⟨Rl0, Rl1, Rl2, Rl3, Rl4, Rl5, Rl6⟩ := shc7 H3l
    go_wp2_with fail
    exact bodyPost_ret (v := .tuple #[.agg #[.int .i64 0, .int .i64 0, .int .i64 0, .int .i64 0, .int .i64 0, .int .i64 0, .slice none 0 0], .agg #[.int .i64 0, .int .i64 0, .int .i64 0, .int .i64 0, .int .i64 0, .int .i64 0, .int .i64 0], .int .i64 5]) (by simp [results, Try.results75, Rr0.out, Rr1.out, Rr2.out, Rr3.out, Rr4.out, Rr5.out, Rr6.out, Rl0.out, Rl1.out, Rl2.out, Rl3.out, Rl4.out, Rl5.out, Rl6.out, go_sem]) rfl ⟨ac0, bi0, none, 0, 0, _, rfl, HV.out, deb.fresh_nil _ _, H3B.out⟩
  | true =>
    have HM : Hid (AMay x) := hr.1 rfl
    clear hr H5
    have HSV : Hid (Blk w1 (w.heap.size) #[.int .i64 x.me, .int .i64 x.rv, .int .i64 x.nx, .int .i64 x.mo, .int .i64 x.bo, .int .i64 x.fr, .slice p len cap] 55) := H1d.out
    have H2d : Hid (Blk (w1.alloc (.cells #[.int .i64 x.me, .int .i64 x.rv, .int .i64 x.nx, .int .i64 x.mo, .int .i64 x.bo, .int .i64 x.fr, .slice p len cap, .int .i64 0, .int .i64 0, .int .i64 0, .int .i64 0, .int .i64 0, .int .i64 0, .int .i64 0] 134)) (w.heap.size) #[.int .i64 x.me, .int .i64 x.rv, .int .i64 x.nx, .int .i64 x.mo, .int .i64 x.bo, .int .i64 x.fr, .slice p len cap] 55) := H1d.out.alloc _
    have H2r : Hid (Blk (w1.alloc (.cells #[.int .i64 x.me, .int .i64 x.rv, .int .i64 x.nx, .int .i64 x.mo, .int .i64 x.bo, .int .i64 x.fr, .slice p len cap, .int .i64 0, .int .i64 0, .int .i64 0, .int .i64 0, .int .i64 0, .int .i64 0, .int .i64 0] 134)) (w.heap.size + 1) #[.int .i64 0, .int .i64 0, .int .i64 0, .int .i64 0, .int .i64 0, .int .i64 0, .slice none 0 0] 55) := H1r.out.alloc _
    have H2l : Hid (Blk (w1.alloc (.cells #[.int .i64 x.me, .int .i64 x.rv, .int .i64 x.nx, .int .i64 x.mo, .int .i64 x.bo, .int .i64 x.fr, .slice p len cap, .int .i64 0, .int .i64 0, .int .i64 0, .int .i64 0, .int .i64 0, .int .i64 0, .int .i64 0] 134)) (w.heap.size + 1 + 1) #[.int .i64 0, .int .i64 0, .int .i64 0, .int .i64 0, .int .i64 0, .int .i64 0, .int .i64 0] 23) := H1l.out.alloc _
    have H2R : Hid (Came (w1.alloc (.cells #[.int .i64 x.me, .int .i64 x.rv, .int .i64 x.nx, .int .i64 x.mo, .int .i64 x.bo, .int .i64 x.fr, .slice p len cap, .int .i64 0, .int .i64 0, .int .i64 0, .int .i64 0, .int .i64 0, .int .i64 0, .int .i64 0] 134)) p len cap x.ds) := H1R.out.below ((Below.refl _ _).alloc (Nat.le_refl _) _)
    have H2n : Hid (Blk (w1.alloc (.cells #[.int .i64 x.me, .int .i64 x.rv, .int .i64 x.nx, .int .i64 x.mo, .int .i64 x.bo, .int .i64 x.fr, .slice p len cap, .int .i64 0, .int .i64 0, .int .i64 0, .int .i64 0, .int .i64 0, .int .i64 0, .int .i64 0] 134)) (w1.heap.size) #[.int .i64 x.me, .int .i64 x.rv, .int .i64 x.nx, .int .i64 x.mo, .int .i64 x.bo, .int .i64 x.fr, .slice p len cap, .int .i64 0, .int .i64 0, .int .i64 0, .int .i64 0, .int .i64 0, .int .i64 0, .int .i64 0] 134) := Blk.new w1 _ _
    have H2B : Hid (Below w.heap.size w (w1.alloc (.cells #[.int .i64 x.me, .int .i64 x.rv, .int .i64 x.nx, .int .i64 x.mo, .int .i64 x.bo, .int .i64 x.fr, .slice p len cap, .int .i64 0, .int .i64 0, .int .i64 0, .int .i64 0, .int .i64 0, .int .i64 0, .int .i64 0] 134))) := H1B.out.alloc H1B.out.size _
    have hsW2 : (w1.alloc (.cells #[.int .i64 x.me, .int .i64 x.rv, .int .i64 x.nx, .int .i64 x.mo, .int .i64 x.bo, .int .i64 x.fr, .slice p len cap, .int .i64 0, .int .i64 0, .int .i64 0, .int .i64 0, .int .i64 0, .int .i64 0, .int .i64 0] 134)).heap.size = w1.heap.size + 1 := by simp
    clear H1d H1r H1l H1R H1B
    go_upto_region 4 with (first | (refine wp_whole rfl 55 _ rfl _ rfl 55 _ _ HSV.out Try.underlying55 rfl (by kernel_rfl) ?_) | fail)
    generalize (w1.alloc (.cells #[.int .i64 x.me, .int .i64 x.rv, .int .i64 x.nx, .int .i64 x.mo, .int .i64 x.bo, .int .i64 x.fr, .slice p len cap, .int .i64 0, .int .i64 0, .int .i64 0, .int .i64 0, .int .i64 0, .int .i64 0, .int .i64 0] 134)) = W2 at *
    clear HSV
    have qd6 : W2.cell? ⟨w.heap.size, 6, none⟩ = some (.slice p len cap) := H2d.out.cell 6
    go_wp2_with (first
      | (at_builtin; refine wp_copyD deb.debtT rfl _ _ rfl (w1.heap.size + 1) p len cap x.ds rfl rfl H2R.out (by omega) ?_)
      | (refine wp_whole rfl 55 _ rfl _ rfl 55 _ _ H2d.out Try.underlying55 rfl (by kernel_rfl) ?_)
      | (refine wp_whole rfl 55 _ rfl _ rfl 55 _ _ H2r.out Try.underlying55 rfl (by kernel_rfl) ?_)
      | (refine wp_whole rfl 23 _ rfl _ rfl 23 _ _ H2l.out Try.underlying23 rfl (by kernel_rfl) ?_)
      | (refine wp_whole rfl 134 _ rfl _ rfl 134 _ _ H2n.out Try.underlying134 rfl (by kernel_rfl) ?_)
      | fail)
    intro v3 w3 hl3 hg3
    have hb3 : Below W2.heap.size W2 w3 := (Below.refl _ _).grown hg3 (Nat.le_refl _) (fun k hk => by cases hk)
    obtain ⟨p3, cap3, hv3, hf3⟩ := deb.ld_fresh hl3 HM.out.1
    rw [HLEN.out] at hv3 hf3
    subst hv3
    have H3d := shN H2d hb3
    have H3r := shN H2r hb3
    have H3l := shN H2l hb3
    have H3n := shN H2n hb3
    have H3B := shB H2B hb3
    have HL3 : Hid (Ld 25 w3 (w1.heap.size + 1) (.slice p3 len cap3) x.ds) := hl3
    have hsw3 : W2.heap.size ≤ w3.heap.size := hb3.size
    clear hl3 hg3 hb3 hf3 qd6 H2d H2r H2l H2n H2B
    go_wp2_with (first
      | (refine wp_letS rfl 53 _ _ rfl (w1.heap.size) 6 rfl p3 len cap3 rfl (by kernel_rfl) #[.int .i64 x.me, .int .i64 x.rv, .int .i64 x.nx, .int .i64 x.mo, .int .i64 x.bo, .int .i64 x.fr, .slice p len cap, .int .i64 0, .int .i64 0, .int .i64 0, .int .i64 0, .int .i64 0, .int .i64 0, .int .i64 0] 134 H3n.out (by simp) ?_)
      | (refine wp_whole rfl 55 _ rfl _ rfl 55 _ _ H3d.out Try.underlying55 rfl (by kernel_rfl) ?_)
      | (refine wp_whole rfl 55 _ rfl _ rfl 55 _ _ H3r.out Try.underlying55 rfl (by kernel_rfl) ?_)
      | (refine wp_whole rfl 23 _ rfl _ rfl 23 _ _ H3l.out Try.underlying23 rfl (by kernel_rfl) ?_)
      | (refine wp_whole rfl 134 _ rfl _ rfl 134 _ _ H3n.out Try.underlying134 rfl (by kernel_rfl) ?_)
      | fail)
    intro W4 hU
    have H4d := shK hU H3d (by omega)
    have H4r := shK hU H3r (by omega)
    have H4l := shK hU H3l (by omega)
    have H4n : Hid (Blk W4 (w1.heap.size) #[.int .i64 x.me, .int .i64 x.rv, .int .i64 x.nx, .int .i64 x.mo, .int .i64 x.bo, .int .i64 x.fr, .slice p3 len cap3, .int .i64 0, .int .i64 0, .int .i64 0, .int .i64 0, .int .i64 0, .int .i64 0, .int .i64 0] 134) := hU.blk
    have H4B := shV hU H3B (by omega)
    have HL4 : Hid (Ld 25 W4 (w1.heap.size + 1) (.slice p3 len cap3) x.ds) := ld_upd HL3.out hU (by omega)
    have HCA : Hid (Calls Try.prog F (#[.pointer (some ⟨w1.heap.size, 0, none⟩)] ++ caps) W4 fun e w' => WPost W4 w1.heap.size (Or0 Is) e w') := HFU.out HM.out W4 w1.heap.size p3 cap3 H4B.out (by omega) H4n.out HL4.out
    have hsW4 : W4.heap.size = w3.heap.size := hU.size
    clear hU HL3 HL4 HFU H3d H3r H3l H3n H3B
    go_wp2_with fail
    refine HCA.out.mono ?_
    rintro e w5 ⟨y, b, q, n, c, f, rfl, hor, hi5, hf5, hb5⟩
    have H5d : Hid (Blk w5 (w.heap.size) #[.int .i64 x.me, .int .i64 x.rv, .int .i64 x.nx, .int .i64 x.mo, .int .i64 x.bo, .int .i64 x.fr, .slice p len cap] 55) := H4d.out.below hb5 (by omega)
    have H5r : Hid (Blk w5 (w.heap.size + 1) #[.int .i64 0, .int .i64 0, .int .i64 0, .int .i64 0, .int .i64 0, .int .i64 0, .slice none 0 0] 55) := H4r.out.below hb5 (by omega)
    have H5l : Hid (Blk w5 (w.heap.size + 1 + 1) #[.int .i64 0, .int .i64 0, .int .i64 0, .int .i64 0, .int .i64 0, .int .i64 0, .int .i64 0] 23) := H4l.out.below hb5 (by omega)
    have H5n : Hid (Blk w5 (w1.heap.size) #[.int .i64 y.me, .int .i64 y.rv, .int .i64 y.nx, .int .i64 y.mo, .int .i64 y.bo, .int .i64 y.fr, .slice q n c, .int .i64 b.id, .int .i64 b.te, .int .i64 b.de, .int .i64 b.fe, .int .i64 b.pr, .int .i64 b.ch, .int .i64 b.un] 134) := hi5
    have H5B : Hid (Below w.heap.size w w5) := H4B.out.trans (hb5.mono (by omega))
    have hsw5 : W4.heap.size ≤ w5.heap.size := hb5.size
    have H6F : Hid (deb.Fresh w5 (w1.heap.size + 1) q n c y.ds) := hf5
    have HUPF : Hid (0 < n → ∀ y, q = some y → y.block < w5.heap.size) := came_lt H6F.out.came
    have HOR : Hid (Or0 Is y b f) := hor
    clear hor hi5 hf5 hb5 HCA hK H4d H4r H4l H4n H4B
    by_cases h0 : f = 0
    · subst h0
      have HV : Hid (Is y b 0) := by
        rcases HOR.out with ⟨h, _⟩ | ⟨_, h⟩
        · exact absurd rfl h
        · exact h
      clear HOR
      go_wp2_with fail
      refine wp_region_held_drew (S := fun v => Blk v (w1.heap.size) #[.int .i64 y.me, .int .i64 y.rv, .int .i64 y.nx, .int .i64 y.mo, .int .i64 y.bo, .int .i64 y.fr, .slice q n c, .int .i64 b.id, .int .i64 b.te, .int .i64 b.de, .int .i64 b.fe, .int .i64 b.pr, .int .i64 b.ch, .int .i64 b.un] 134) (by kernel_rfl) (Blk.drew H5n.out 1) (fun hHeld => ?_)
      refine take_at 0 28 (.pointer (some ⟨w1.heap.size, 0, none⟩)) _ rfl rfl (by kernel_rfl) (by kernel_rfl) (by kernel_rfl) (fun _ _ _ h => h) (Or.inl ⟨by rfl, fun v hv => by clear hv; go_simp⟩) hHeld ?_
      simp only [Act.put, List.setIfInBounds_toArray, List.set_cons_zero, List.set_cons_succ]
      refine take_at 1 29 (.agg #[.int .i64 y.me, .int .i64 y.rv, .int .i64 y.nx, .int .i64 y.mo, .int .i64 y.bo, .int .i64 y.fr, .slice q n c]) _ rfl rfl (by kernel_rfl) (by kernel_rfl) (by kernel_rfl) (fun _ _ _ h => h) (Or.inl ⟨by rfl, fun v hv => by have g0 := hv.cell 0; have g1 := hv.cell 1; have g2 := hv.cell 2; have g3 := hv.cell 3; have g4 := hv.cell 4; have g5 := hv.cell 5; have g6 := hv.cell 6; clear hv; go_simp⟩) hHeld ?_
      simp only [Act.put, List.setIfInBounds_toArray, List.set_cons_zero, List.set_cons_succ]
      refine take_at 2 30 (.pointer (some ⟨w1.heap.size, 7, none⟩)) _ rfl rfl (by kernel_rfl) (by kernel_rfl) (by kernel_rfl) (fun _ _ _ h => h) (Or.inl ⟨by rfl, fun v hv => by clear hv; go_simp⟩) hHeld ?_
      simp only [Act.put, List.setIfInBounds_toArray, List.set_cons_zero, List.set_cons_succ]
      refine take_at 3 31 (.agg #[.int .i64 b.id, .int .i64 b.te, .int .i64 b.de, .int .i64 b.fe, .int .i64 b.pr, .int .i64 b.ch, .int .i64 b.un]) _ rfl rfl (by kernel_rfl) (by kernel_rfl) (by kernel_rfl) (fun _ _ _ h => h) (Or.inl ⟨by rfl, fun v hv => by have g0 := hv.cell 7; have g1 := hv.cell 8; have g2 := hv.cell 9; have g3 := hv.cell 10; have g4 := hv.cell 11; have g5 := hv.cell 12; have g6 := hv.cell 13; clear hv; go_simp⟩) hHeld ?_
      simp only [Act.put, List.setIfInBounds_toArray, List.set_cons_zero, List.set_cons_succ]
      refine wpAnyH_ready (rs := [4]) (by kernel_rfl) (by simp) (AllReadyH.cons rfl (fun K hK => ?_) AllReadyH.nil)
      rw [if_pos (by rfl)]
      refine wp_letOp 55 _ _ rfl (w.heap.size + 1) rfl #[.int .i64 y.me, .int .i64 y.rv, .int .i64 y.nx, .int .i64 y.mo, .int .i64 y.bo, .int .i64 y.fr, .slice q n c] rfl (by kernel_rfl) (by simp [Value.oneCell']) #[.int .i64 0, .int .i64 0, .int .i64 0, .int .i64 0, .int .i64 0, .int .i64 0, .slice none 0 0] 55 (Blk.drew H5r.out 1) rfl rfl ?_
      intro V1 hU
      have H7d : Hid (Blk V1 (w.heap.size) #[.int .i64 x.me, .int .i64 x.rv, .int .i64 x.nx, .int .i64 x.mo, .int .i64 x.bo, .int .i64 x.fr, .slice p len cap] 55) := hU.keep (Blk.drew H5d.out 1) (by omega)
      have H7r : Hid (Blk V1 (w.heap.size + 1) #[.int .i64 y.me, .int .i64 y.rv, .int .i64 y.nx, .int .i64 y.mo, .int .i64 y.bo, .int .i64 y.fr, .slice q n c] 55) := hU.blk
      have H7l : Hid (Blk V1 (w.heap.size + 1 + 1) #[.int .i64 0, .int .i64 0, .int .i64 0, .int .i64 0, .int .i64 0, .int .i64 0, .int .i64 0] 23) := hU.keep (Blk.drew H5l.out 1) (by omega)
      have H7n : Hid (Blk V1 (w1.heap.size) #[.int .i64 y.me, .int .i64 y.rv, .int .i64 y.nx, .int .i64 y.mo, .int .i64 y.bo, .int .i64 y.fr, .slice q n c, .int .i64 b.id, .int .i64 b.te, .int .i64 b.de, .int .i64 b.fe, .int .i64 b.pr, .int .i64 b.ch, .int .i64 b.un] 134) := hU.keep (Blk.drew H5n.out 1) (by omega)
      have H7F : Hid (deb.Fresh V1 (w1.heap.size + 1) q n c y.ds) := fresh_updN (fresh_drew H6F.out) hU (fun hn y hy => by have f1 := H6F.out.new hn y hy; have f2 := HUPF.out hn y hy; omega)
      have H7B : Hid (Below w.heap.size w V1) := hU.bel _ _ (by omega) H5B.out.drew
      clear hU H5d H5r H5l H5n H6F H5B
      refine hK.out _ _ H7n.out (fun hHeld => ?_)
      clear hK K
      refine wpAnyH_ready (rs := [5]) (by kernel_rfl) (by simp) (AllReadyH.cons rfl (fun K hK => ?_) AllReadyH.nil)
      rw [if_pos (by rfl)]
      refine wp_letOp 23 _ _ rfl (w.heap.size + 1 + 1) rfl #[.int .i64 b.id, .int .i64 b.te, .int .i64 b.de, .int .i64 b.fe, .int .i64 b.pr, .int .i64 b.ch, .int .i64 b.un] rfl (by kernel_rfl) (by simp [Value.oneCell']) #[.int .i64 0, .int .i64 0, .int .i64 0, .int .i64 0, .int .i64 0, .int .i64 0, .int .i64 0] 23 H7l.out rfl rfl ?_
      intro V2 hU
      have H8d := shK hU H7d (by omega)
      have H8r := shK hU H7r (by omega)
      have H8l : Hid (Blk V2 (w.heap.size + 1 + 1) #[.int .i64 b.id, .int .i64 b.te, .int .i64 b.de, .int .i64 b.fe, .int .i64 b.pr, .int .i64 b.ch, .int .i64 b.un] 23) := hU.blk
      have H8n := shK hU H7n (by omega)
      have H8F : Hid (deb.Fresh V2 (w1.heap.size + 1) q n c y.ds) := fresh_updN H7F.out hU (fun hn y hy => by have f1 := H7F.out.new hn y hy; have f2 := HUPF.out hn y hy; omega)
      have H8B := shV hU H7B (by omega)
      clear hU H7d H7r H7l H7n H7F H7B
      refine hK.out _ _ H8n.out (fun hHeld => ?_)
      clear hK K
      refine take_at 6 6 (.int .i64 0) _ rfl rfl (by kernel_rfl) (by kernel_rfl) (by kernel_rfl) (fun _ _ _ h => h) (Or.inl ⟨by rfl, fun v hv => by clear hv; go_simp⟩) hHeld ?_
      simp only [Act.put, List.setIfInBounds_toArray, List.set_cons_zero, List.set_cons_succ]
      refine wpAnyH_done (by kernel_rfl) ?_ _
      clear hHeld
      have Rr0 : Hid (V2.cell? ⟨w.heap.size + 1, 0, none⟩ = some (.int .i64 y.me)) := H8r.out.cell 0
      have Rr1 : Hid (V2.cell? ⟨w.heap.size + 1, 1, none⟩ = some (.int .i64 y.rv)) := H8r.out.cell 1
      have Rr2 : Hid (V2.cell? ⟨w.heap.size + 1, 2, none⟩ = some (.int .i64 y.nx)) := H8r.out.cell 2
      have Rr3 : Hid (V2.cell? ⟨w.heap.size + 1, 3, none⟩ = some (.int .i64 y.mo)) := H8r.out.cell 3
      have Rr4 : Hid (V2.cell? ⟨w.heap.size + 1, 4, none⟩ = some (.int .i64 y.bo)) := H8r.out.cell 4
      have Rr5 : Hid (V2.cell? ⟨w.heap.size + 1, 5, none⟩ = some (.int .i64 y.fr)) := H8r.out.cell 5
      have Rr6 : Hid (V2.cell? ⟨w.heap.size + 1, 6, none⟩ = some (.slice q n c)) := H8r.out.cell 6
      have Rl0 : Hid (V2.cell? ⟨w.heap.size + 1 + 1, 0, none⟩ = some (.int .i64 b.id)) := H8l.out.cell 0
      have Rl1 : Hid (V2.cell? ⟨w.heap.size + 1 + 1, 1, none⟩ = some (.int .i64 b.te)) := H8l.out.cell 1
      have Rl2 : Hid (V2.cell? ⟨w.heap.size + 1 + 1, 2, none⟩ = some (.int .i64 b.de)) := H8l.out.cell 2
      have Rl3 : Hid (V2.cell? ⟨w.heap.size + 1 + 1, 3, none⟩ = some (.int .i64 b.fe)) := H8l.out.cell 3
      have Rl4 : Hid (V2.cell? ⟨w.heap.size + 1 + 1, 4, none⟩ = some (.int .i64 b.pr)) := H8l.out.cell 4
      have Rl5 : Hid (V2.cell? ⟨w.heap.size + 1 + 1, 5, none⟩ = some (.int .i64 b.ch)) := H8l.out.cell 5
      have Rl6 : Hid (V2.cell? ⟨w.heap.size + 1 + 1, 6, none⟩ = some (.int .i64 b.un)) := H8l.out.cell 6
      go_wp2_with fail
      exact bodyPost_ret (v := .tuple #[.agg #[.int .i64 y.me, .int .i64 y.rv, .int .i64 y.nx, .int .i64 y.mo, .int .i64 y.bo, .int .i64 y.fr, .slice q n c], .agg #[.int .i64 b.id, .int .i64 b.te, .int .i64 b.de, .int .i64 b.fe, .int .i64 b.pr, .int .i64 b.ch, .int .i64 b.un], .int .i64 0]) (by simp [results, Try.results75, Rr0.out, Rr1.out, Rr2.out, Rr3.out, Rr4.out, Rr5.out, Rr6.out, Rl0.out, Rl1.out, Rl2.out, Rl3.out, Rl4.out, Rl5.out, Rl6.out, go_sem]) rfl ⟨y, b, q, n, c, 0, rfl, HV.out, H8F.out.low (by omega), H8B.out⟩
    · have d0 : (f != 0) = true := by simpa using h0
      have HV : Hid (Is ac0 bi0 f) := by
        rcases HOR.out with ⟨_, h⟩ | ⟨h, _⟩
        · exact h
        · exact absurd h h0
      clear HOR h0
      go_wp2_with (first
        | (refine wp_letAll rfl 55 _ _ rfl _ rfl _ rfl (by kernel_rfl) (by simp [Value.oneCell']) _ 55 H5r.out rfl ?_)
        | (refine wp_whole rfl 55 _ rfl _ rfl 55 _ _ H5d.out Try.underlying55 rfl (by kernel_rfl) ?_)
        | (refine wp_whole rfl 55 _ rfl _ rfl 55 _ _ H5r.out Try.underlying55 rfl (by kernel_rfl) ?_)
        | (refine wp_whole rfl 23 _ rfl _ rfl 23 _ _ H5l.out Try.underlying23 rfl (by kernel_rfl) ?_)
        | (refine wp_whole rfl 134 _ rfl _ rfl 134 _ _ H5n.out Try.underlying134 rfl (by kernel_rfl) ?_)
        | fail)
      intro w5a hU
      have H7d := shK hU H5d (by omega)
      have H7r : Hid (Blk w5a (w.heap.size + 1) #[.int .i64 0, .int .i64 0, .int .i64 0, .int .i64 0, .int .i64 0, .int .i64 0, .slice none 0 0] 55) := hU.blk
      have H7l := shK hU H5l (by omega)
      have H7n := shK hU H5n (by omega)
      have H7B := shV hU H5B (by omega)
      have hsw5a : w5a.heap.size = w5.heap.size := hU.size
      clear hU H5d H5r H5l H5n H5B
      go_wp2_with (first
        | (refine wp_letAll rfl 23 _ _ rfl _ rfl _ rfl (by kernel_rfl) (by simp [Value.oneCell']) _ 23 H7l.out rfl ?_)
        | (refine wp_whole rfl 55 _ rfl _ rfl 55 _ _ H7d.out Try.underlying55 rfl (by kernel_rfl) ?_)
        | (refine wp_whole rfl 55 _ rfl _ rfl 55 _ _ H7r.out Try.underlying55 rfl (by kernel_rfl) ?_)
        | (refine wp_whole rfl 23 _ rfl _ rfl 23 _ _ H7l.out Try.underlying23 rfl (by kernel_rfl) ?_)
        | (refine wp_whole rfl 134 _ rfl _ rfl 134 _ _ H7n.out Try.underlying134 rfl (by kernel_rfl) ?_)
        | fail)
      intro w5ab hU
      have H8d := shK hU H7d (by omega)
      have H8r := shK hU H7r (by omega)
      have H8l : Hid (Blk w5ab (w.heap.size + 1 + 1) #[.int .i64 0, .int .i64 0, .int .i64 0, .int .i64 0, .int .i64 0, .int .i64 0, .int .i64 0] 23) := hU.blk
      have H8n := shK hU H7n (by omega)
      have H8B := shV hU H7B (by omega)
      have hsw5ab : w5ab.heap.size = w5a.heap.size := hU.size
      clear hU H7d H7r H7l H7n H7B
      obtain ⟨Rr0, Rr1, Rr2, Rr3, Rr4, Rr5, Rr6⟩ := shc7 H8r
      obtain ⟨Rl0, Rl1, Rl2, Rl3, Rl4, Rl5, Rl6⟩ := shc7 H8l
      go_wp2_with fail
      exact bodyPost_ret (v := .tuple #[.agg #[.int .i64 0, .int .i64 0, .int .i64 0, .int .i64 0, .int .i64 0, .int .i64 0, .slice none 0 0], .agg #[.int .i64 0, .int .i64 0, .int .i64 0, .int .i64 0, .int .i64 0, .int .i64 0, .int .i64 0], .int .i64 f]) (by simp [results, Try.results75, Rr0.out, Rr1.out, Rr2.out, Rr3.out, Rr4.out, Rr5.out, Rr6.out, Rl0.out, Rl1.out, Rl2.out, Rl3.out, Rl4.out, Rl5.out, Rl6.out, go_sem]) rfl ⟨ac0, bi0, none, 0, 0, _, rfl, HV.out, deb.fresh_nil _ _, H8B.out⟩

end Go.Proofs.Ytfhlokjpdkmdjaa.acc

/- A debt more, for an account at work. -/
namespace Go.Proofs.Ytfhlokjpdkmdjaa.acc
open Go.Proofs.Ytfhlokjpdkmdjaa.tar (Du du0 Came RowD Ld PairT)
open Go.RowKit
set_option maxRecDepth 100000
set_option linter.unusedVariables false
set_option linter.unusedSimpArgs false

set_option maxHeartbeats 4000000 in
theorem powe (g : Nat) (x : Ac) (p : Option Addr) (len cap : Nat) (q : Du) (w : World) (hw : Blk w g (wcs x bi0 p len cap) 134) (hl : Ld 25 w (g + 1) (.slice p len cap) x.ds) (ha : AMay x) : Calls Try.prog 77 #[.pointer (some ⟨g, 0, none⟩), .agg #[.int .i64 q.a, .int .i64 q.b]] w fun e w' => WPost w g (Or0 (fun y _ f => OweIs x q y f)) e w' := by
  have hgl := hw.lt
  have hdm := ha.1
  have hle : x.ds.length = len := by obtain ⟨a0, c0, hv, _⟩ := hl.row; injection hv with _ h2 _; exact h2.symm
  have HDF : Hid (deb.Fresh w (g + 1) p len cap x.ds) := by
    obtain ⟨a0, c0, hv, hf⟩ := deb.ld_fresh hl hdm
    injection hv with h1 h2 h3
    rw [h1, h2, h3]; exact hf
  have hl8 : len ≤ 8 := by have := hdm.1; omega
  have HM : Hid (AMay x) := ha
  have HI1 : Hid (∀ W, Calls Try.prog 49 #[.int .i64 1, .int .i64 1000000000, .int .i64 q.a] W fun e w' => e = .returned (.bool (decide (1 ≤ q.a ∧ q.a ≤ 1000000000))) ∧ w' = W) := fun W => awithin 1 1000000000 q.a W
  have HI2 : Hid (∀ W, Calls Try.prog 49 #[.int .i64 0, .int .i64 10000, .int .i64 q.b] W fun e w' => e = .returned (.bool (decide (0 ≤ q.b ∧ q.b ≤ 10000))) ∧ w' = W) := fun W => awithin 0 10000 q.b W
  have HOW : Hid (∀ (e : some w.heap.size = (Value.slice p len cap).ownBlock), False) := fun e => by have := (World.ownsRow.lt hl _ e.symm).2; omega
  have H0B : Hid (Below w.heap.size w (w.alloc (.cells #[.int .i64 q.a, .int .i64 q.b] 25))) := (Below.refl w.heap.size w).alloc (by simp) _
  have H0e : Hid (Blk (w.alloc (.cells #[.int .i64 q.a, .int .i64 q.b] 25)) w.heap.size #[.int .i64 q.a, .int .i64 q.b] 25) := Blk.new w _ _
  have H0g : Hid (Blk (w.alloc (.cells #[.int .i64 q.a, .int .i64 q.b] 25)) g #[.int .i64 x.me, .int .i64 x.rv, .int .i64 x.nx, .int .i64 x.mo, .int .i64 x.bo, .int .i64 x.fr, .slice p len cap, .int .i64 0, .int .i64 0, .int .i64 0, .int .i64 0, .int .i64 0, .int .i64 0, .int .i64 0] 134) := hw.alloc _
  have H0L : Hid (Ld 25 (w.alloc (.cells #[.int .i64 q.a, .int .i64 q.b] 25)) (g + 1) (.slice p len cap) x.ds) := hl.alloc _
  have H0F : Hid (deb.Fresh (w.alloc (.cells #[.int .i64 q.a, .int .i64 q.b] 25)) (g + 1) p len cap x.ds) := HDF.out.below H0B.out
  have H0G : Hid (Below g w (w.alloc (.cells #[.int .i64 q.a, .int .i64 q.b] 25))) := H0B.out.mono (by omega)
  have hsz : w.heap.size < (w.alloc (.cells #[.int .i64 q.a, .int .i64 q.b] 25)).heap.size := H0e.out.lt
  clear hw hl ha HDF H0B
  generalize hWW : (w.alloc (.cells #[.int .i64 q.a, .int .i64 q.b] 25)) = W0 at *
  have HWW : Hid ((w.alloc (.cells #[.int .i64 q.a, .int .i64 q.b] 25)) = W0) := hWW
  clear hWW
  have e0 : W0.cell? ⟨w.heap.size, 0, none⟩ = some (.int .i64 q.a) := H0e.out.cell 0
  have e1 : W0.cell? ⟨w.heap.size, 1, none⟩ = some (.int .i64 q.b) := H0e.out.cell 1
  have g6 : W0.cell? ⟨g, 6, none⟩ = some (.slice p len cap) := H0g.out.cell 6
  go_enter Try.func77, Try.ntmps77
  go_upto_region 1 with fail
  rw [HWW.out]
  clear HWW
  by_cases h1 : 1 ≤ q.a ∧ q.a ≤ 1000000000
  · rw [decide_eq_true h1] at HI1
    go_wp2_with fail
    refine (HI1.out _).mono ?_
    rintro e wz ⟨rfl, hwz⟩
    subst wz
    clear HI1
    by_cases h2 : 0 ≤ q.b ∧ q.b ≤ 10000
    · rw [decide_eq_true h2] at HI2
      go_wp2_with fail
      refine (HI2.out _).mono ?_
      rintro e wz ⟨rfl, hwz⟩
      subst wz
      clear HI2
      by_cases h3 : len < 8
      · have d3 : ((len : Int) == 8) = false := by simp; omega
        have HMN : Hid (deb.Mays (x.ds ++ [q])) := ⟨by rw [List.length_append, hle]; show len + 1 ≤ 8; omega, deb.fits_mem fun d hd => by
          rcases List.mem_append.1 hd with hd | hd
          · exact deb.mem_fits hdm.2 d hd
          · have e2 := List.mem_singleton.1 hd
            subst e2
            exact ⟨⟨by omega, h1.2⟩, h2⟩⟩
        have hzl : x.ds.length ≤ 1000000 := by omega
        have HV : Hid (Or0 (fun y _ f => OweIs x q y f) ⟨x.me, x.rv, x.nx, x.mo, x.bo, x.fr, x.ds ++ [q]⟩ bi0 0) := .inr ⟨rfl, .inr (.inr (.inr ⟨HM.out, ⟨h1, h2⟩, by rw [hle]; exact h3, rfl, rfl⟩))⟩
        have HZL : Hid (x.ds.length ≤ 1000000) := hzl
        clear h1 h2 h3 hdm hle hzl
        go_wp2_with fail
        clear e0 e1
        have HED : Hid (Blk W0.drew w.heap.size #[.int .i64 q.a, .int .i64 q.b] 25) := Blk.drew H0e.out 1
        have q6 : W0.drew.cell? ⟨g, 6, none⟩ = some (.slice p len cap) := H0g.out.cell 6
        have HEA : Hid (Blk (W0.alloc (.cells #[.int .i64 q.a, .int .i64 q.b] 25)).drew w.heap.size #[.int .i64 q.a, .int .i64 q.b] 25) := HED.out.alloc _
        have HGA : Hid (Blk (W0.alloc (.cells #[.int .i64 q.a, .int .i64 q.b] 25)).drew g #[.int .i64 x.me, .int .i64 x.rv, .int .i64 x.nx, .int .i64 x.mo, .int .i64 x.bo, .int .i64 x.fr, .slice p len cap, .int .i64 0, .int .i64 0, .int .i64 0, .int .i64 0, .int .i64 0, .int .i64 0, .int .i64 0] 134) := H0g.out.alloc _
        have HLA : Hid (Ld 25 (W0.alloc (.cells #[.int .i64 q.a, .int .i64 q.b] 25)).drew (g + 1) (.slice p len cap) x.ds) := H0L.out.alloc _
        have HCA : Hid ((W0.alloc (.cells #[.int .i64 q.a, .int .i64 q.b] 25)).drew.cell? ⟨W0.heap.size, 0, none⟩ = some (.int .i64 q.a) ∧ (W0.alloc (.cells #[.int .i64 q.a, .int .i64 q.b] 25)).drew.cell? ⟨W0.heap.size, 1, none⟩ = some (.int .i64 q.b)) := ⟨(Blk.new W0 _ _).cell 0, (Blk.new W0 _ _).cell 1⟩
        have HBA : Hid (Below g w (W0.alloc (.cells #[.int .i64 q.a, .int .i64 q.b] 25)).drew) := bel_drew (H0G.out.alloc (by omega) _) 1
        have hsA : W0.heap.size < (W0.alloc (.cells #[.int .i64 q.a, .int .i64 q.b] 25)).drew.heap.size := (Blk.new W0 #[.int .i64 q.a, .int .i64 q.b] 25).lt
        refine wp_region_held_drew (S := fun v => Blk v (w.heap.size) #[.int .i64 q.a, .int .i64 q.b] 25) (by kernel_rfl) HED.out (fun hHeld => ?_)
        refine take_at 0 24 (.pointer (some ⟨g, 0, none⟩)) _ rfl rfl (by kernel_rfl) (by kernel_rfl) (by kernel_rfl) (fun _ _ _ h => h) (Or.inl ⟨by rfl, fun v hv => by clear hv; go_simp⟩) hHeld ?_
        simp only [Act.put, List.setIfInBounds_toArray, List.set_cons_zero, List.set_cons_succ]
        refine take_at 1 25 (.pointer (some ⟨g, 0, none⟩)) _ rfl rfl (by kernel_rfl) (by kernel_rfl) (by kernel_rfl) (fun _ _ _ h => h) (Or.inl ⟨by rfl, fun v hv => by clear hv; go_simp⟩) hHeld ?_
        simp only [Act.put, List.setIfInBounds_toArray, List.set_cons_zero, List.set_cons_succ]
        refine take_at 2 26 (.pointer (some ⟨g, 0, none⟩)) _ rfl rfl (by kernel_rfl) (by kernel_rfl) (by kernel_rfl) (fun _ _ _ h => h) (Or.inl ⟨by rfl, fun v hv => by clear hv; go_simp⟩) hHeld ?_
        simp only [Act.put, List.setIfInBounds_toArray, List.set_cons_zero, List.set_cons_succ]
        refine take_at 3 27 (.pointer (some ⟨g, 0, none⟩)) _ rfl rfl (by kernel_rfl) (by kernel_rfl) (by kernel_rfl) (fun _ _ _ h => h) (Or.inl ⟨by rfl, fun v hv => by clear hv; go_simp⟩) hHeld ?_
        simp only [Act.put, List.setIfInBounds_toArray, List.set_cons_zero, List.set_cons_succ]
        refine take_at 4 28 (.pointer (some ⟨g, 6, none⟩)) _ rfl rfl (by kernel_rfl) (by kernel_rfl) (by kernel_rfl) (fun _ _ _ h => h) (Or.inl ⟨by rfl, fun v hv => by clear hv; go_simp⟩) hHeld ?_
        simp only [Act.put, List.setIfInBounds_toArray, List.set_cons_zero, List.set_cons_succ]
        refine take_at 6 30 (.agg #[.int .i64 q.a, .int .i64 q.b]) _ rfl rfl (by kernel_rfl) (by kernel_rfl) (by kernel_rfl) (fun _ _ _ h => h) (Or.inl ⟨by rfl, fun v hv => by have g0 := hv.cell 0; have g1 := hv.cell 1; clear hv; go_simp⟩) hHeld ?_
        simp only [Act.put, List.setIfInBounds_toArray, List.set_cons_zero, List.set_cons_succ]
        refine wpAnyH_ready (rs := [5, 7]) (by kernel_rfl) (by simp) (AllReadyH.cons rfl (fun K hK => ?_) (AllReadyH.cons rfl (fun K hK => ?_) AllReadyH.nil))
        all_goals rw [if_pos (by rfl)]
        · refine wp_runOp (v := .slice p len cap) (w' := W0.drew) 29 rfl (by clear hK; go_simp) ?_
          refine hK.out _ _ HED.out (fun hHeld => ?_)
          clear hK K q6
          simp only [Act.put, List.setIfInBounds_toArray, List.set_cons_zero, List.set_cons_succ]
          refine wpAnyH_ready (rs := [7]) (by kernel_rfl) (by simp) (AllReadyH.cons rfl (fun K hK => ?_) AllReadyH.nil)
          rw [if_pos (by rfl)]
          refine wp_runOp (v := .slice (some ⟨W0.heap.size, 0, none⟩) 1 1) (w' := (W0.alloc (.cells #[.int .i64 q.a, .int .i64 q.b] 25)).drew) 31 rfl (by clear hK; go_simp) ?_
          refine hK.out _ _ HEA.out (fun hHeld => ?_)
          clear hK K
          simp only [Act.put, List.setIfInBounds_toArray, List.set_cons_zero, List.set_cons_succ]
          generalize (W0.alloc (.cells #[.int .i64 q.a, .int .i64 q.b] 25)).drew = WA at *
          generalize W0.heap.size = hA at *
          refine wpAnyH_ready (rs := [8]) (by kernel_rfl) (by simp) (AllReadyH.cons rfl (fun K hK => ?_) AllReadyH.nil)
          refine tar.step_pair deb.debtT rfl _ _ rfl (g + 1) hA (.slice p len cap) x.ds q rfl rfl HLA.out HCA.out HZL.out (by omega) ?_
          intro v5 w5 h5 hg5
          obtain ⟨p5, c5, hv5, hf5⟩ := deb.ld_fresh h5 HMN.out
          subst hv5
          have H5g : Hid (Blk w5 g #[.int .i64 x.me, .int .i64 x.rv, .int .i64 x.nx, .int .i64 x.mo, .int .i64 x.bo, .int .i64 x.fr, .slice p len cap, .int .i64 0, .int .i64 0, .int .i64 0, .int .i64 0, .int .i64 0, .int .i64 0, .int .i64 0] 134) := grown_blk HGA.out hg5 (tar.own_far HLA.out (by omega))
          have H5e : Hid (Blk w5 w.heap.size #[.int .i64 q.a, .int .i64 q.b] 25) := grown_blk HEA.out hg5 (fun e => HOW.out e)
          have H5B : Hid (Below g w w5) := tar.own_bel HLA.out hg5 HBA.out (by omega) (by omega)
          have H5F : Hid (deb.Fresh w5 (g + 1) p5 (x.ds ++ [q]).length c5 (x.ds ++ [q])) := hf5
          refine hK.out _ _ H5e.out (fun hHeld => ?_)
          clear hK K h5 hg5 hf5 HGA HEA HLA HCA HBA HED
          simp only [Act.put, List.setIfInBounds_toArray, List.set_cons_zero, List.set_cons_succ]
          generalize (x.ds ++ [q]).length = n5 at *
          refine take_at 9 33 (.pointer (some ⟨g, 0, none⟩)) _ rfl rfl (by kernel_rfl) (by kernel_rfl) (by kernel_rfl) (fun _ _ _ h => h) (Or.inl ⟨by rfl, fun v hv => by clear hv; go_simp⟩) hHeld ?_
          simp only [Act.put, List.setIfInBounds_toArray, List.set_cons_zero, List.set_cons_succ]
          refine take_at 10 34 (.pointer (some ⟨g, 0, none⟩)) _ rfl rfl (by kernel_rfl) (by kernel_rfl) (by kernel_rfl) (fun _ _ _ h => h) (Or.inl ⟨by rfl, fun v hv => by clear hv; go_simp⟩) hHeld ?_
          simp only [Act.put, List.setIfInBounds_toArray, List.set_cons_zero, List.set_cons_succ]
          refine take_at 11 35 (.pointer (some ⟨g, 6, none⟩)) _ rfl rfl (by kernel_rfl) (by kernel_rfl) (by kernel_rfl) (fun _ _ _ h => h) (Or.inl ⟨by rfl, fun v hv => by clear hv; go_simp⟩) hHeld ?_
          simp only [Act.put, List.setIfInBounds_toArray, List.set_cons_zero, List.set_cons_succ]
          refine wpAnyH_ready (rs := [12]) (by kernel_rfl) (by simp) (AllReadyH.cons rfl (fun K hK => ?_) AllReadyH.nil)
          rw [if_pos (by rfl)]
          refine wp_letOp1 53 _ _ rfl g 6 rfl (.slice p5 n5 c5) rfl rfl (by kernel_rfl) rfl #[.int .i64 x.me, .int .i64 x.rv, .int .i64 x.nx, .int .i64 x.mo, .int .i64 x.bo, .int .i64 x.fr, .slice p len cap, .int .i64 0, .int .i64 0, .int .i64 0, .int .i64 0, .int .i64 0, .int .i64 0, .int .i64 0] 134 H5g.out (by simp) rfl ?_
          intro W6 hU
          have H6g : Hid (Blk W6 g #[.int .i64 x.me, .int .i64 x.rv, .int .i64 x.nx, .int .i64 x.mo, .int .i64 x.bo, .int .i64 x.fr, .slice p5 n5 c5, .int .i64 0, .int .i64 0, .int .i64 0, .int .i64 0, .int .i64 0, .int .i64 0, .int .i64 0] 134) := hU.blk
          have H6e := shK hU H5e (by omega)
          have H6B : Hid (Below g w W6) := hU.bel _ _ (Nat.le_refl _) H5B.out
          have H6F : Hid (deb.Fresh W6 (g + 1) p5 n5 c5 (x.ds ++ [q])) := fresh_chg H5F.out (.upd hU)
          refine hK.out _ _ H6e.out (fun hHeld => ?_)
          clear hK K hU H5g H5e H5B H5F
          refine wpAnyH_done (by kernel_rfl) ?_ _
          clear hHeld
          go_wp2_with fail
          go_ret
          exact ⟨⟨x.me, x.rv, x.nx, x.mo, x.bo, x.fr, x.ds ++ [q]⟩, bi0, p5, n5, c5, 0, rfl, HV.out, H6g.out, H6F.out, H6B.out⟩
        · refine wp_runOp (v := .slice (some ⟨W0.heap.size, 0, none⟩) 1 1) (w' := (W0.alloc (.cells #[.int .i64 q.a, .int .i64 q.b] 25)).drew) 31 rfl (by clear hK; go_simp) ?_
          refine hK.out _ _ HEA.out (fun hHeld => ?_)
          clear hK K q6
          have q7 : (W0.alloc (.cells #[.int .i64 q.a, .int .i64 q.b] 25)).drew.cell? ⟨g, 6, none⟩ = some (.slice p len cap) := HGA.out.cell 6
          simp only [Act.put, List.setIfInBounds_toArray, List.set_cons_zero, List.set_cons_succ]
          refine wpAnyH_ready (rs := [5]) (by kernel_rfl) (by simp) (AllReadyH.cons rfl (fun K hK => ?_) AllReadyH.nil)
          rw [if_pos (by rfl)]
          refine wp_runOp (v := .slice p len cap) (w' := (W0.alloc (.cells #[.int .i64 q.a, .int .i64 q.b] 25)).drew) 29 rfl (by clear hK; go_simp) ?_
          refine hK.out _ _ HEA.out (fun hHeld => ?_)
          clear hK K q7
          simp only [Act.put, List.setIfInBounds_toArray, List.set_cons_zero, List.set_cons_succ]
          generalize (W0.alloc (.cells #[.int .i64 q.a, .int .i64 q.b] 25)).drew = WA at *
          generalize W0.heap.size = hA at *
          refine wpAnyH_ready (rs := [8]) (by kernel_rfl) (by simp) (AllReadyH.cons rfl (fun K hK => ?_) AllReadyH.nil)
          refine tar.step_pair deb.debtT rfl _ _ rfl (g + 1) hA (.slice p len cap) x.ds q rfl rfl HLA.out HCA.out HZL.out (by omega) ?_
          intro v5 w5 h5 hg5
          obtain ⟨p5, c5, hv5, hf5⟩ := deb.ld_fresh h5 HMN.out
          subst hv5
          have H5g : Hid (Blk w5 g #[.int .i64 x.me, .int .i64 x.rv, .int .i64 x.nx, .int .i64 x.mo, .int .i64 x.bo, .int .i64 x.fr, .slice p len cap, .int .i64 0, .int .i64 0, .int .i64 0, .int .i64 0, .int .i64 0, .int .i64 0, .int .i64 0] 134) := grown_blk HGA.out hg5 (tar.own_far HLA.out (by omega))
          have H5e : Hid (Blk w5 w.heap.size #[.int .i64 q.a, .int .i64 q.b] 25) := grown_blk HEA.out hg5 (fun e => HOW.out e)
          have H5B : Hid (Below g w w5) := tar.own_bel HLA.out hg5 HBA.out (by omega) (by omega)
          have H5F : Hid (deb.Fresh w5 (g + 1) p5 (x.ds ++ [q]).length c5 (x.ds ++ [q])) := hf5
          refine hK.out _ _ H5e.out (fun hHeld => ?_)
          clear hK K h5 hg5 hf5 HGA HEA HLA HCA HBA HED
          simp only [Act.put, List.setIfInBounds_toArray, List.set_cons_zero, List.set_cons_succ]
          generalize (x.ds ++ [q]).length = n5 at *
          refine take_at 9 33 (.pointer (some ⟨g, 0, none⟩)) _ rfl rfl (by kernel_rfl) (by kernel_rfl) (by kernel_rfl) (fun _ _ _ h => h) (Or.inl ⟨by rfl, fun v hv => by clear hv; go_simp⟩) hHeld ?_
          simp only [Act.put, List.setIfInBounds_toArray, List.set_cons_zero, List.set_cons_succ]
          refine take_at 10 34 (.pointer (some ⟨g, 0, none⟩)) _ rfl rfl (by kernel_rfl) (by kernel_rfl) (by kernel_rfl) (fun _ _ _ h => h) (Or.inl ⟨by rfl, fun v hv => by clear hv; go_simp⟩) hHeld ?_
          simp only [Act.put, List.setIfInBounds_toArray, List.set_cons_zero, List.set_cons_succ]
          refine take_at 11 35 (.pointer (some ⟨g, 6, none⟩)) _ rfl rfl (by kernel_rfl) (by kernel_rfl) (by kernel_rfl) (fun _ _ _ h => h) (Or.inl ⟨by rfl, fun v hv => by clear hv; go_simp⟩) hHeld ?_
          simp only [Act.put, List.setIfInBounds_toArray, List.set_cons_zero, List.set_cons_succ]
          refine wpAnyH_ready (rs := [12]) (by kernel_rfl) (by simp) (AllReadyH.cons rfl (fun K hK => ?_) AllReadyH.nil)
          rw [if_pos (by rfl)]
          refine wp_letOp1 53 _ _ rfl g 6 rfl (.slice p5 n5 c5) rfl rfl (by kernel_rfl) rfl #[.int .i64 x.me, .int .i64 x.rv, .int .i64 x.nx, .int .i64 x.mo, .int .i64 x.bo, .int .i64 x.fr, .slice p len cap, .int .i64 0, .int .i64 0, .int .i64 0, .int .i64 0, .int .i64 0, .int .i64 0, .int .i64 0] 134 H5g.out (by simp) rfl ?_
          intro W6 hU
          have H6g : Hid (Blk W6 g #[.int .i64 x.me, .int .i64 x.rv, .int .i64 x.nx, .int .i64 x.mo, .int .i64 x.bo, .int .i64 x.fr, .slice p5 n5 c5, .int .i64 0, .int .i64 0, .int .i64 0, .int .i64 0, .int .i64 0, .int .i64 0, .int .i64 0] 134) := hU.blk
          have H6e := shK hU H5e (by omega)
          have H6B : Hid (Below g w W6) := hU.bel _ _ (Nat.le_refl _) H5B.out
          have H6F : Hid (deb.Fresh W6 (g + 1) p5 n5 c5 (x.ds ++ [q])) := fresh_chg H5F.out (.upd hU)
          refine hK.out _ _ H6e.out (fun hHeld => ?_)
          clear hK K hU H5g H5e H5B H5F
          refine wpAnyH_done (by kernel_rfl) ?_ _
          clear hHeld
          go_wp2_with fail
          go_ret
          exact ⟨⟨x.me, x.rv, x.nx, x.mo, x.bo, x.fr, x.ds ++ [q]⟩, bi0, p5, n5, c5, 0, rfl, HV.out, H6g.out, H6F.out, H6B.out⟩
      · have d3 : ((len : Int) == 8) = true := by simp; omega
        have HV : Hid (Or0 (fun y _ f => OweIs x q y f) x bi0 16) := .inl ⟨by decide, .inr (.inr (.inl ⟨HM.out, ⟨h1, h2⟩, by rw [hle]; exact h3, rfl, rfl⟩))⟩
        clear h1 h2 h3
        go_wp2_with fail
        go_ret
        exact ⟨x, bi0, p, len, cap, 16, rfl, HV.out, H0g.out, H0F.out, H0G.out⟩
    · rw [decide_eq_false h2] at HI2
      have HV : Hid (Or0 (fun y _ f => OweIs x q y f) x bi0 2) := .inl ⟨by decide, .inr (.inl ⟨HM.out, fun hh => h2 hh.2, rfl, rfl⟩)⟩
      clear h2
      go_wp2_with fail
      refine (HI2.out _).mono ?_
      rintro e wz ⟨rfl, hwz⟩
      subst wz
      go_wp2_with fail
      all_goals first
        | (rename_i q1 q2; exact absurd q1 (by simp [undef]))
        | (go_ret; exact ⟨x, bi0, p, len, cap, 2, rfl, HV.out, H0g.out, H0F.out, H0G.out⟩)
  · rw [decide_eq_false h1] at HI1
    have HV : Hid (Or0 (fun y _ f => OweIs x q y f) x bi0 2) := .inl ⟨by decide, .inr (.inl ⟨HM.out, fun hh => h1 hh.1, rfl, rfl⟩)⟩
    clear h1
    go_wp2_with fail
    refine (HI1.out _).mono ?_
    rintro e wz ⟨rfl, hwz⟩
    subst wz
    go_wp2_with fail
    all_goals first
      | (rename_i q1 q2; exact absurd q1 (by simp [undef]))
      | (go_ret; exact ⟨x, bi0, p, len, cap, 2, rfl, HV.out, H0g.out, H0F.out, H0G.out⟩)

end Go.Proofs.Ytfhlokjpdkmdjaa.acc

/- account.Owe: what is asked of it. -/
namespace Go.Proofs.Ytfhlokjpdkmdjaa.acc
open Go.Proofs.Ytfhlokjpdkmdjaa.tar (Du)
open Go.RowKit

def KcOwe : Prop := ∀ (W : World) (x : Ac) (p : Option Addr) (len cap : Nat) (q : Du), ACame W x p len cap → (Lit.int .i64 q.a).wf = true ∧ (Lit.int .i64 q.b).wf = true → Calls Try.prog 66 #[x.v p len cap, .agg #[.int .i64 q.a, .int .i64 q.b]] W fun e w' => APost W (OweIs x q) e w'

end Go.Proofs.Ytfhlokjpdkmdjaa.acc

/- account.Owe. -/
namespace Go.Proofs.Ytfhlokjpdkmdjaa.acc
open Go.Proofs.Ytfhlokjpdkmdjaa.tar (Du du0 Came RowD Ld PairT)
open Go.RowKit
set_option maxRecDepth 100000
set_option linter.unusedVariables false
set_option linter.unusedSimpArgs false

set_option maxHeartbeats 1000000 in
theorem powe1 (B0 g : Nat) (x : Ac) (p : Option Addr) (len cap : Nat) (q : Du) (w : World) (hB0 : Blk w B0 #[.int .i64 q.a, .int .i64 q.b] 25) (hw : Blk w g (wcs x bi0 p len cap) 134) (hl : Ld 25 w (g + 1) (.slice p len cap) x.ds) (ha : AMay x) : Calls Try.prog 76 #[.pointer (some ⟨g, 0, none⟩), .pointer (some ⟨B0, 0, none⟩)] w fun e w' => WPost w g (Or0 (fun y _ f => OweIs x q y f)) e w' := by
  have HIN : Hid (Calls Try.prog 77 #[.pointer (some ⟨g, 0, none⟩), .agg #[.int .i64 q.a, .int .i64 q.b]] w fun e w' => WPost w g (Or0 (fun y _ f => OweIs x q y f)) e w') := powe g x p len cap q w hw hl ha
  have HK0 : Hid (Blk w B0 #[.int .i64 q.a, .int .i64 q.b] 25) := hB0
  clear hw ha hl
  go_enter Try.func76, Try.ntmps76
  go_wp2_with (first | (refine wp_whole rfl 25 _ rfl _ rfl 25 _ _ HK0.out Try.underlying25 rfl (by kernel_rfl) ?_) | fail)
  refine HIN.out.mono ?_
  rintro e w1 hx
  have HX : Hid (WPost w g (Or0 (fun y _ f => OweIs x q y f)) e w1) := hx
  obtain ⟨y, b, q2, n, c, f, rfl, _⟩ := hx
  clear HIN
  go_wp2_with fail
  go_ret
  exact HX.out
set_option maxHeartbeats 4000000 in
theorem kowe : KcOwe := by
  intro w x p len cap q ha hq
  unfold Ac.v Ac.cs
  obtain ⟨W0, HWW, H0d, H0e, H0r, H0B, hs0⟩ := sh3 w #[.int .i64 x.me, .int .i64 x.rv, .int .i64 x.nx, .int .i64 x.mo, .int .i64 x.bo, .int .i64 x.fr, .slice p len cap] 55 #[.int .i64 q.a, .int .i64 q.b] 25 #[.int .i64 0, .int .i64 0, .int .i64 0, .int .i64 0, .int .i64 0, .int .i64 0, .slice none 0 0] 55
  have H0R : Hid (Came W0 p len cap x.ds) := ha.ds.below H0B.out
  go_enter Try.func66, Try.ntmps66
  go_upto_region 1 with fail
  rw [HWW.out]
  clear HWW
  have HXe : Hid (∀ W, Below W0.heap.size W0 W → Blk W (w.heap.size + 1) #[.int .i64 q.a, .int .i64 q.b] 25) := fun W hW => H0e.out.next hW
  have HWK : Hid (Calls Try.prog 75 #[.agg #[.int .i64 x.me, .int .i64 x.rv, .int .i64 x.nx, .int .i64 x.mo, .int .i64 x.bo, .int .i64 x.fr, .slice p len cap], .func (.func 76) #[] #[.pointer (some ⟨w.heap.size + 1, 0, none⟩)]] W0 fun e w' => BPost W0 (fun y _ f => OweIs x q y f) e w') := by
    refine pwork 76 #[.pointer (some ⟨w.heap.size + 1, 0, none⟩)] (fun y _ f => OweIs x q y f) x p len cap W0 H0R.out (fun h => .inl ⟨h, rfl, rfl⟩) (fun _ _ => by kernel_rfl) ?_
    intro hm W g p' cap' hB hg hblk hld
    exact powe1 _ g x p' len cap' q W (HXe.out W hB) hblk hld hm
  clear ha HXe
  go_wp2_with (first
    | (refine wp_whole rfl 55 _ rfl _ rfl 55 _ _ H0d.out Try.underlying55 rfl (by kernel_rfl) ?_)
    | (refine wp_whole rfl 25 _ rfl _ rfl 25 _ _ H0e.out Try.underlying25 rfl (by kernel_rfl) ?_)
    | (refine wp_whole rfl 55 _ rfl _ rfl 55 _ _ H0r.out Try.underlying55 rfl (by kernel_rfl) ?_)
    | fail)
  refine HWK.out.mono ?_
  rintro e w1 ⟨b, l, pr, lr, cr, fz, rfl, hi, hf, hb1⟩
  have H1d := shN H0d hb1
  have H1e := shN H0e hb1
  have H1r := shN H0r hb1
  have H1R : Hid (Came w1 p len cap x.ds) := H0R.out.below hb1
  have H1B := shB H0B hb1
  have hsw1 : W0.heap.size ≤ w1.heap.size := hb1.size
  clear hb1 H0d H0e H0r H0R H0B
  unfold Ac.v Ac.cs Bi.v
  clear HWK
  have H2F : Hid (deb.Fresh w1 W0.heap.size pr lr cr b.ds) := hf
  have HUPF : Hid (0 < lr → ∀ y, pr = some y → y.block < w1.heap.size) := came_lt H2F.out.came
  have HV : Hid (OweIs x q b fz) := hi
  clear hf hi
  have H3d : Hid (Blk ((w1.alloc (.cells #[.int .i64 b.me, .int .i64 b.rv, .int .i64 b.nx, .int .i64 b.mo, .int .i64 b.bo, .int .i64 b.fr, .slice pr lr cr] 55)).alloc (.cells #[.int .i64 l.id, .int .i64 l.te, .int .i64 l.de, .int .i64 l.fe, .int .i64 l.pr, .int .i64 l.ch, .int .i64 l.un] 23)) (w.heap.size) #[.int .i64 x.me, .int .i64 x.rv, .int .i64 x.nx, .int .i64 x.mo, .int .i64 x.bo, .int .i64 x.fr, .slice p len cap] 55) := (H1d.out.alloc _).alloc _
  have H3e : Hid (Blk ((w1.alloc (.cells #[.int .i64 b.me, .int .i64 b.rv, .int .i64 b.nx, .int .i64 b.mo, .int .i64 b.bo, .int .i64 b.fr, .slice pr lr cr] 55)).alloc (.cells #[.int .i64 l.id, .int .i64 l.te, .int .i64 l.de, .int .i64 l.fe, .int .i64 l.pr, .int .i64 l.ch, .int .i64 l.un] 23)) (w.heap.size + 1) #[.int .i64 q.a, .int .i64 q.b] 25) := (H1e.out.alloc _).alloc _
  have H3r : Hid (Blk ((w1.alloc (.cells #[.int .i64 b.me, .int .i64 b.rv, .int .i64 b.nx, .int .i64 b.mo, .int .i64 b.bo, .int .i64 b.fr, .slice pr lr cr] 55)).alloc (.cells #[.int .i64 l.id, .int .i64 l.te, .int .i64 l.de, .int .i64 l.fe, .int .i64 l.pr, .int .i64 l.ch, .int .i64 l.un] 23)) (w.heap.size + 1 + 1) #[.int .i64 0, .int .i64 0, .int .i64 0, .int .i64 0, .int .i64 0, .int .i64 0, .slice none 0 0] 55) := (H1r.out.alloc _).alloc _
  have H3F : Hid (deb.Fresh ((w1.alloc (.cells #[.int .i64 b.me, .int .i64 b.rv, .int .i64 b.nx, .int .i64 b.mo, .int .i64 b.bo, .int .i64 b.fr, .slice pr lr cr] 55)).alloc (.cells #[.int .i64 l.id, .int .i64 l.te, .int .i64 l.de, .int .i64 l.fe, .int .i64 l.pr, .int .i64 l.ch, .int .i64 l.un] 23)) W0.heap.size pr lr cr b.ds) := H2F.out.below (((Below.refl w1.heap.size w1).alloc (by simp) _).alloc (by simp) _)
  have H3n : Hid (Blk ((w1.alloc (.cells #[.int .i64 b.me, .int .i64 b.rv, .int .i64 b.nx, .int .i64 b.mo, .int .i64 b.bo, .int .i64 b.fr, .slice pr lr cr] 55)).alloc (.cells #[.int .i64 l.id, .int .i64 l.te, .int .i64 l.de, .int .i64 l.fe, .int .i64 l.pr, .int .i64 l.ch, .int .i64 l.un] 23)) w1.heap.size #[.int .i64 b.me, .int .i64 b.rv, .int .i64 b.nx, .int .i64 b.mo, .int .i64 b.bo, .int .i64 b.fr, .slice pr lr cr] 55) := (Blk.new w1 _ _).alloc _
  have H3c : Hid (Blk ((w1.alloc (.cells #[.int .i64 b.me, .int .i64 b.rv, .int .i64 b.nx, .int .i64 b.mo, .int .i64 b.bo, .int .i64 b.fr, .slice pr lr cr] 55)).alloc (.cells #[.int .i64 l.id, .int .i64 l.te, .int .i64 l.de, .int .i64 l.fe, .int .i64 l.pr, .int .i64 l.ch, .int .i64 l.un] 23)) (w1.heap.size + 1) #[.int .i64 l.id, .int .i64 l.te, .int .i64 l.de, .int .i64 l.fe, .int .i64 l.pr, .int .i64 l.ch, .int .i64 l.un] 23) := Blk.new1 w1 _ _ _
  have H3B : Hid (Below w.heap.size w ((w1.alloc (.cells #[.int .i64 b.me, .int .i64 b.rv, .int .i64 b.nx, .int .i64 b.mo, .int .i64 b.bo, .int .i64 b.fr, .slice pr lr cr] 55)).alloc (.cells #[.int .i64 l.id, .int .i64 l.te, .int .i64 l.de, .int .i64 l.fe, .int .i64 l.pr, .int .i64 l.ch, .int .i64 l.un] 23))) := (H1B.out.alloc H1B.out.size _).alloc (Nat.le_trans H1B.out.size (by simp)) _
  have hsW4 : w1.heap.size + 1 < ((w1.alloc (.cells #[.int .i64 b.me, .int .i64 b.rv, .int .i64 b.nx, .int .i64 b.mo, .int .i64 b.bo, .int .i64 b.fr, .slice pr lr cr] 55)).alloc (.cells #[.int .i64 l.id, .int .i64 l.te, .int .i64 l.de, .int .i64 l.fe, .int .i64 l.pr, .int .i64 l.ch, .int .i64 l.un] 23)).heap.size := (Blk.new1 w1 _ #[.int .i64 l.id, .int .i64 l.te, .int .i64 l.de, .int .i64 l.fe, .int .i64 l.pr, .int .i64 l.ch, .int .i64 l.un] 23).lt
  clear H1d H1e H1r H2F H1B
  go_upto_region 2 with fail
  generalize ((w1.alloc (.cells #[.int .i64 b.me, .int .i64 b.rv, .int .i64 b.nx, .int .i64 b.mo, .int .i64 b.bo, .int .i64 b.fr, .slice pr lr cr] 55)).alloc (.cells #[.int .i64 l.id, .int .i64 l.te, .int .i64 l.de, .int .i64 l.fe, .int .i64 l.pr, .int .i64 l.ch, .int .i64 l.un] 23)) = W4 at *
  go_wp2_with (first
    | (refine wp_letAll rfl 55 _ _ rfl _ rfl _ rfl (by kernel_rfl) (by simp [Value.oneCell']) _ 55 H3r.out rfl ?_)
    | (refine wp_whole rfl 55 _ rfl _ rfl 55 _ _ H3d.out Try.underlying55 rfl (by kernel_rfl) ?_)
    | (refine wp_whole rfl 25 _ rfl _ rfl 25 _ _ H3e.out Try.underlying25 rfl (by kernel_rfl) ?_)
    | (refine wp_whole rfl 55 _ rfl _ rfl 55 _ _ H3r.out Try.underlying55 rfl (by kernel_rfl) ?_)
    | (refine wp_whole rfl 55 _ rfl _ rfl 55 _ _ H3n.out Try.underlying55 rfl (by kernel_rfl) ?_)
    | (refine wp_whole rfl 23 _ rfl _ rfl 23 _ _ H3c.out Try.underlying23 rfl (by kernel_rfl) ?_)
    | fail)
  intro W5 hU
  have H4d := shK hU H3d (by omega)
  have H4e := shK hU H3e (by omega)
  have H4r : Hid (Blk W5 (w.heap.size + 1 + 1) #[.int .i64 b.me, .int .i64 b.rv, .int .i64 b.nx, .int .i64 b.mo, .int .i64 b.bo, .int .i64 b.fr, .slice pr lr cr] 55) := hU.blk
  have H4n := shK hU H3n (by omega)
  have H4c := shK hU H3c (by omega)
  have H4F : Hid (deb.Fresh W5 W0.heap.size pr lr cr b.ds) := fresh_updN H3F.out hU (fun hn y hy => by have f1 := H3F.out.new hn y hy; have f2 := HUPF.out hn y hy; omega)
  have H4B := shV hU H3B (by omega)
  have hsW5 : W5.heap.size = W4.heap.size := hU.size
  clear hU H3d H3e H3r H3n H3c H3F H3B
  obtain ⟨Rr0, Rr1, Rr2, Rr3, Rr4, Rr5, Rr6⟩ := shc7 H4r
  go_wp2_with fail
  exact bodyPost_ret (v := .tuple #[.agg #[.int .i64 b.me, .int .i64 b.rv, .int .i64 b.nx, .int .i64 b.mo, .int .i64 b.bo, .int .i64 b.fr, .slice pr lr cr], .int .i64 fz]) (by simp [results, Try.results66, Rr0.out, Rr1.out, Rr2.out, Rr3.out, Rr4.out, Rr5.out, Rr6.out, go_sem]) rfl ⟨b, pr, lr, cr, fz, rfl, HV.out, H4F.out.low (by omega), H4B.out⟩

end Go.Proofs.Ytfhlokjpdkmdjaa.acc

/- A debt more, in the program. -/
namespace Go.Proofs.Ytfhlokjpdkmdjaa.book
open Go.RowKit
open Go.Proofs.Ytfhlokjpdkmdjaa.acc (Ac Tm Bi APost BPost TFault TRight OpenIs OweIs SellIs GrantIs RekeyIs wf6 ACame TCame fresh_updN fresh_drew came_lt)
set_option maxRecDepth 100000
set_option linter.unusedVariables false
set_option linter.unusedSimpArgs false

/-- What owing comes to. -/
def OwPost (w : World) (x : Ac) (d : tar.Du) (e : Ending) (w' : World) : Prop := Below w.heap.size w w' ∧ ((∃ b pb lb cb, e = .returned (acc.Ac.v b pb lb cb) ∧ OweIs x d b 0 ∧ deb.Fresh w' w.heap.size pb lb cb b.ds) ∨ ∃ b f, f ≠ 0 ∧ e = .panicked (thrown f) ∧ OweIs x d b f)
set_option maxHeartbeats 4000000 in
theorem bowing (x : Ac) (p : Option Addr) (len cap : Nat) (d : tar.Du) (w : World) (ha : ACame w x p len cap) (hd : (Lit.int .i64 d.a).wf = true ∧ (Lit.int .i64 d.b).wf = true) : Calls Try.prog 52 #[.agg #[.int .i64 x.me, .int .i64 x.rv, .int .i64 x.nx, .int .i64 x.mo, .int .i64 x.bo, .int .i64 x.fr, .slice p len cap], .agg #[.int .i64 d.a, .int .i64 d.b]] w fun e w' => OwPost w x d e w' := by
  have HNO : Hid (∀ (f : Int) (hf : f ≠ 0) W, Calls Try.prog 46 #[.int .i64 f] W fun e w' => e = .panicked (thrown f) ∧ w' = W) := fun f hf W => insist_no f hf W
  have HOK : Hid (∀ W, Calls Try.prog 46 #[.int .i64 0] W fun e w' => e = .returned (.tuple #[]) ∧ w' = W) := fun W => insist_ok W
  obtain ⟨W0, HWW, H0a, H0d, H0r, H0B, hs0⟩ := sh3 w #[.int .i64 x.me, .int .i64 x.rv, .int .i64 x.nx, .int .i64 x.mo, .int .i64 x.bo, .int .i64 x.fr, .slice p len cap] 55 #[.int .i64 d.a, .int .i64 d.b] 25 #[.int .i64 0, .int .i64 0, .int .i64 0, .int .i64 0, .int .i64 0, .int .i64 0, .slice none 0 0] 55
  have H0A : Hid (ACame W0 x p len cap) := ha.below H0B.out
  go_enter Try.func52, Try.ntmps52
  go_upto_region 1 with fail
  rw [HWW.out]
  clear HWW
  have HSL : Hid (Calls Try.prog 66 #[.agg #[.int .i64 x.me, .int .i64 x.rv, .int .i64 x.nx, .int .i64 x.mo, .int .i64 x.bo, .int .i64 x.fr, .slice p len cap], .agg #[.int .i64 d.a, .int .i64 d.b]] W0 fun e w' => APost W0 (OweIs x d) e w') := acc.kowe _ x p len cap d H0A.out hd
  clear hd ha
  have HS0 : Hid (w.heap.size ≤ W0.heap.size) := H0B.out.size
  go_wp2_with (first
    | (refine wp_whole rfl 55 _ rfl _ rfl 55 _ _ H0a.out Try.underlying55 rfl (by kernel_rfl) ?_)
    | (refine wp_whole rfl 25 _ rfl _ rfl 25 _ _ H0d.out Try.underlying25 rfl (by kernel_rfl) ?_)
    | (refine wp_whole rfl 55 _ rfl _ rfl 55 _ _ H0r.out Try.underlying55 rfl (by kernel_rfl) ?_)
    | fail)
  refine HSL.out.mono ?_
  rintro e w1 ⟨b, pb, lb, cb, f, rfl, hi, hf, hb1⟩
  have hW1 : W0.heap.size ≤ w1.heap.size := hb1.size
  have HI : Hid (OweIs x d b f) := hi
  have HF1 : Hid (deb.Fresh w1 W0.heap.size pb lb cb b.ds) := hf
  have H1a := shN H0a hb1
  have H1d := shN H0d hb1
  have H1r := shN H0r hb1
  have H1B := shB H0B hb1
  clear H0a H0d H0r H0B
  clear hi hf hb1 HSL
  unfold acc.Ac.v acc.Ac.cs
  go_wp2_with (first
    | (refine wp_letAll rfl 55 _ _ rfl _ rfl _ rfl (by kernel_rfl) (by simp [Value.oneCell']) _ 55 H1a.out rfl ?_)
    | (refine wp_whole rfl 55 _ rfl _ rfl 55 _ _ H1a.out Try.underlying55 rfl (by kernel_rfl) ?_)
    | (refine wp_whole rfl 25 _ rfl _ rfl 25 _ _ H1d.out Try.underlying25 rfl (by kernel_rfl) ?_)
    | (refine wp_whole rfl 55 _ rfl _ rfl 55 _ _ H1r.out Try.underlying55 rfl (by kernel_rfl) ?_)
    | fail)
  intro V1 hU
  have H2a : Hid (Blk V1 (w.heap.size) #[.int .i64 b.me, .int .i64 b.rv, .int .i64 b.nx, .int .i64 b.mo, .int .i64 b.bo, .int .i64 b.fr, .slice pb lb cb] 55) := hU.blk
  have H2d := shK hU H1d (by omega)
  have H2r := shK hU H1r (by omega)
  have H2B := shV hU H1B (by omega)
  clear H1a H1d H1r H1B
  have HF2 : Hid (deb.Fresh V1 W0.heap.size pb lb cb b.ds) := fresh_updN HF1.out hU (fun hn y hy => by have f1 := HF1.out.new hn y hy; omega)
  clear hU HF1
  by_cases h0 : f = 0
  case neg =>
    have HN1 := HNO.out f h0
    have HN2 : Hid (∀ W, Calls Try.prog 46 #[.int .i64 f] W fun e w' => e = .panicked (thrown f) ∧ w' = W) := HN1
    have HNE : Hid (f ≠ 0) := h0
    clear HN1 HNO h0
    go_wp2_with (first
      | (refine wp_whole rfl 55 _ rfl _ rfl 55 _ _ H2a.out Try.underlying55 rfl (by kernel_rfl) ?_)
      | (refine wp_whole rfl 25 _ rfl _ rfl 25 _ _ H2d.out Try.underlying25 rfl (by kernel_rfl) ?_)
      | (refine wp_whole rfl 55 _ rfl _ rfl 55 _ _ H2r.out Try.underlying55 rfl (by kernel_rfl) ?_)
      | fail)
    refine (HN2.out _).mono ?_
    rintro e W9 ⟨rfl, rfl⟩
    exact ⟨rfl, H2B.out, .inr ⟨b, f, HNE.out, rfl, HI.out⟩⟩
  subst h0
  go_wp2_with (first
    | (refine wp_whole rfl 55 _ rfl _ rfl 55 _ _ H2a.out Try.underlying55 rfl (by kernel_rfl) ?_)
    | (refine wp_whole rfl 25 _ rfl _ rfl 25 _ _ H2d.out Try.underlying25 rfl (by kernel_rfl) ?_)
    | (refine wp_whole rfl 55 _ rfl _ rfl 55 _ _ H2r.out Try.underlying55 rfl (by kernel_rfl) ?_)
    | fail)
  refine (HOK.out _).mono ?_
  rintro e W9 ⟨rfl, hw9⟩
  obtain rfl : V1 = W9 := hw9.symm
  go_wp2_with (first
    | (refine wp_letAll rfl 55 _ _ rfl _ rfl _ rfl (by kernel_rfl) (by simp [Value.oneCell']) _ 55 H2r.out rfl ?_)
    | (refine wp_whole rfl 55 _ rfl _ rfl 55 _ _ H2a.out Try.underlying55 rfl (by kernel_rfl) ?_)
    | (refine wp_whole rfl 25 _ rfl _ rfl 25 _ _ H2d.out Try.underlying25 rfl (by kernel_rfl) ?_)
    | (refine wp_whole rfl 55 _ rfl _ rfl 55 _ _ H2r.out Try.underlying55 rfl (by kernel_rfl) ?_)
    | fail)
  intro V2 hU
  have H3a := shK hU H2a (by omega)
  have H3d := shK hU H2d (by omega)
  have H3r : Hid (Blk V2 (w.heap.size + 1 + 1) #[.int .i64 b.me, .int .i64 b.rv, .int .i64 b.nx, .int .i64 b.mo, .int .i64 b.bo, .int .i64 b.fr, .slice pb lb cb] 55) := hU.blk
  have H3B := shV hU H2B (by omega)
  clear H2a H2d H2r H2B
  have HF3 : Hid (deb.Fresh V2 W0.heap.size pb lb cb b.ds) := fresh_updN HF2.out hU (fun hn y hy => by have f1 := HF2.out.new hn y hy; omega)
  clear hU HF2
  obtain ⟨R0, R1, R2, R3, R4, R5, R6⟩ := shc7 H3r
  go_wp2_with fail
  exact bodyPost_ret (v := .agg #[.int .i64 b.me, .int .i64 b.rv, .int .i64 b.nx, .int .i64 b.mo, .int .i64 b.bo, .int .i64 b.fr, .slice pb lb cb]) (by simp [results, Try.results52, R0.out, R1.out, R2.out, R3.out, R4.out, R5.out, R6.out, go_sem]) rfl ⟨H3B.out, .inl ⟨b, pb, lb, cb, rfl, HI.out, HF3.out.low HS0.out⟩⟩

end Go.Proofs.Ytfhlokjpdkmdjaa.book

/- What the small functions of package cents, and of the document's answer to it, give back: one contract a function. -/
namespace Go.Proofs.Ytfhlokjpdkmdjaa.cents
open Go.RowKit

/-- The slice a, len, cap reads as the numbers zs: its elements alone. -/
def Row (w : World) (a : Option Addr) (len : Nat) (zs : List Int) : Prop :=
  zs.length = len ∧ (len = 0 ∨ ∃ b off, a = some ⟨b, off, none⟩ ∧ ∀ i, i < len → w.cell? ⟨b, off + i, none⟩ = some (.int .i64 (zs.getD i 0)))

def okAll (lo hi : Int) (l : List Int) : Bool := l.all fun n => decide (lo ≤ n) && decide (n ≤ hi)

theorem okAll_step (lo hi : Int) (zs : List Int) (k : Nat) (hk : k < zs.length) (h : okAll lo hi (zs.take k) = true) (h1 : lo ≤ zs.getD k 0) (h2 : zs.getD k 0 ≤ hi) : okAll lo hi (zs.take (k + 1)) = true := by
  unfold okAll at *
  rw [List.take_add_one, List.all_append, h]
  simp only [List.getD, List.getElem?_eq_getElem hk, Option.getD] at h1 h2 ⊢
  simp [h1, h2]

theorem okAll_no (lo hi : Int) (zs : List Int) (k : Nat) (hk : k < zs.length) (h : zs.getD k 0 < lo ∨ hi < zs.getD k 0) : okAll lo hi zs = false := by
  unfold okAll
  rw [List.all_eq_false]
  refine ⟨zs[k], List.getElem_mem hk, ?_⟩
  simp only [List.getD, List.getElem?_eq_getElem hk, Option.getD] at h
  simp; omega

theorem ret_bool {a b : Bool} (h : a = b) : Ending.returned (.bool a) = .returned (.bool b) := by rw [h]

set_option maxHeartbeats 400000 in
theorem within_any (lo hi : Int) (a : Option Addr) (len cap : Nat) (zs : List Int) (w : World) (hr : Row w a len zs) (hl : len ≤ maxLen) :
    Calls Try.prog 104 #[.int .i64 lo, .int .i64 hi, .slice a len cap] w fun e w' => e = .returned (.bool (okAll lo hi zs)) ∧ w' = w := by
  unfold maxLen at hl
  obtain ⟨hz, hr⟩ := hr
  go_enter Try.func104, Try.ntmps104
  go_wp2
  go_loop [11] (fun i => ∃ k : Nat, k ≤ len ∧ i = .int .i64 k ∧ okAll lo hi (zs.take k) = true) (fun i => len - (intOf i).toNat)
  case atStart => exact ⟨0, Nat.zero_le _, rfl, rfl⟩
  case round =>
    obtain ⟨k, hk, rfl, hok⟩ := hrel
    have HK : Hid (okAll lo hi (zs.take k) = true) := hok
    clear hok
    by_cases hlt : k < len
    · rcases hr with h0 | ⟨b, off, rfl, hc⟩
      · omega
      have hcell := hc k hlt
      clear hc
      generalize hzk : zs.getD k 0 = z at hcell
      have HZ : Hid (zs.getD k 0 = z) := hzk
      clear hzk
      by_cases h1 : z < lo
      · go_wp2
        go_ret
        exact ⟨ret_bool (okAll_no lo hi zs k (by omega) (.inl (by rw [HZ.out]; exact h1))).symm, rfl⟩
      · by_cases h2 : hi < z
        · go_wp2
          go_ret
          exact ⟨ret_bool (okAll_no lo hi zs k (by omega) (.inr (by rw [HZ.out]; exact h2))).symm, rfl⟩
        · go_wp2
          go_round
          case rel => exact ⟨k + 1, by omega, by go_num, okAll_step lo hi zs k (by omega) HK.out (by rw [HZ.out]; omega) (by rw [HZ.out]; omega)⟩
          case measure => simp [intOf]; omega
    · go_wp2
      go_ret
      refine ⟨ret_bool ?_, rfl⟩
      have := HK.out
      rw [List.take_of_length_le (by omega)] at this
      exact this.symm

end Go.Proofs.Ytfhlokjpdkmdjaa.cents

/- One number alone, held against its bounds. -/
namespace Go.Proofs.Ytfhlokjpdkmdjaa.cents
open Go.RowKit

theorem row_one (w : World) (z : Int) (t : TypeId) : Row (w.alloc (.cells #[.int .i64 z] t)) (some ⟨w.heap.size, 0, none⟩) 1 [z] := by
  refine ⟨rfl, .inr ⟨_, _, rfl, fun i hi => ?_⟩⟩
  obtain rfl : i = 0 := by omega
  simp

theorem okAll_yes {lo hi z : Int} (h1 : lo ≤ z) (h2 : z ≤ hi) : okAll lo hi [z] = true := by simp [okAll, h1, h2]
theorem okAll_not {lo hi z : Int} (h : z < lo ∨ hi < z) : okAll lo hi [z] = false := by simp [okAll]; omega

/-- One number alone, laid in a new block: it lies within the bounds. -/
theorem within_one_yes (lo hi z : Int) (w : World) (b : Nat) (hb : b = w.heap.size) (h1 : lo ≤ z) (h2 : z ≤ hi) :
    Calls Try.prog 104 #[.int .i64 lo, .int .i64 hi, .slice (some ⟨b, 0, none⟩) 1 1] (w.alloc (.cells #[.int .i64 z] 3)) fun e w' => e = .returned (.bool true) ∧ w' = w.alloc (.cells #[.int .i64 z] 3) := by
  have h := within_any lo hi _ 1 1 [z] _ (row_one w z 3) (by decide)
  rw [okAll_yes h1 h2] at h
  rw [hb]
  exact h

theorem within_one_no (lo hi z : Int) (w : World) (b : Nat) (hb : b = w.heap.size) (h0 : z < lo ∨ hi < z) :
    Calls Try.prog 104 #[.int .i64 lo, .int .i64 hi, .slice (some ⟨b, 0, none⟩) 1 1] (w.alloc (.cells #[.int .i64 z] 3)) fun e w' => e = .returned (.bool false) ∧ w' = w.alloc (.cells #[.int .i64 z] 3) := by
  have h := within_any lo hi _ 1 1 [z] _ (row_one w z 3) (by decide)
  rw [okAll_not h0] at h
  rw [hb]
  exact h

theorem prod_bd (a b A B : Int) (h1 : 0 ≤ a) (h2 : a ≤ A) (h3 : 0 ≤ b) (h4 : b ≤ B) : 0 ≤ a * b ∧ a * b ≤ A * B :=
  ⟨Int.mul_nonneg h1 h3, Int.mul_le_mul h2 h4 h3 (by omega)⟩

theorem bel1 (w : World) (o : Obj) : Below w.heap.size w (w.alloc o) := (Below.refl _ _).alloc (Nat.le_refl _) _
theorem bel2 (w : World) (o o' : Obj) : Below w.heap.size w ((w.alloc o).alloc o') := (bel1 w o).alloc (by simp) _

end Go.Proofs.Ytfhlokjpdkmdjaa.cents

/- What cents.Part gives back. -/
namespace Go.Proofs.Ytfhlokjpdkmdjaa.cents
open Go.RowKit

theorem split_sum (a b : Int) : a * (10000 - b) = a * 10000 - a * b := by rw [Int.mul_sub]
theorem split_yes (a b : Int) (h : a * b % 10000 = 0) : a * b / 10000 + a * (10000 - b) / 10000 = a := by
  rw [split_sum]
  generalize a * b = p at *
  omega
theorem split_no (a b : Int) (h : ¬ a * b % 10000 = 0) : a * b / 10000 + a * (10000 - b) / 10000 = a - 1 := by
  rw [split_sum]
  generalize a * b = p at *
  omega

set_option maxHeartbeats 400000 in
theorem part_yes (a b : Int) (w : World) (h1 : 0 ≤ a) (h2 : a ≤ 1000000000000) (h3 : 0 ≤ b) (h4 : b ≤ 10000) :
    Calls Try.prog 98 #[.int .i64 a, .int .i64 b] w fun e w' => e = .returned (.tuple #[.int .i64 (a * b / 10000), .int .i64 0]) ∧ Below w.heap.size w w' := by
  obtain ⟨hp1, hp2⟩ := prod_bd a b _ _ h1 h2 h3 h4
  go_enter Try.func98, Try.ntmps98
  go_wp2_with fail
  refine (within_one_yes _ _ _ _ _ rfl h1 h2).mono ?_
  rintro e w' ⟨rfl, rfl⟩
  go_wp2_with fail
  refine (within_one_yes _ _ _ _ _ (by simp) h3 h4).mono ?_
  rintro e w' ⟨rfl, rfl⟩
  go_wp2
  go_ret2
  exact ⟨rfl, bel2 _ _ _⟩

set_option maxHeartbeats 400000 in
theorem part_no (a b : Int) (w : World) (h : (a < 0 ∨ 1000000000000 < a) ∨ (b < 0 ∨ 10000 < b)) :
    Calls Try.prog 98 #[.int .i64 a, .int .i64 b] w fun e w' => e = .returned (.tuple #[.int .i64 0, .int .i64 2]) ∧ Below w.heap.size w w' := by
  by_cases h0 : a < 0 ∨ 1000000000000 < a
  · clear h
    go_enter Try.func98, Try.ntmps98
    go_wp2_with fail
    refine (within_one_no _ _ _ _ _ rfl h0).mono ?_
    rintro e w' ⟨rfl, rfl⟩
    go_wp2
    go_ret2
    exact ⟨rfl, bel1 _ _⟩
  · have h5 : b < 0 ∨ 10000 < b := by omega
    have h1 : 0 ≤ a := by omega
    have h2 : a ≤ 1000000000000 := by omega
    clear h h0
    go_enter Try.func98, Try.ntmps98
    go_wp2_with fail
    refine (within_one_yes _ _ _ _ _ rfl h1 h2).mono ?_
    rintro e w' ⟨rfl, rfl⟩
    go_wp2_with fail
    refine (within_one_no _ _ _ _ _ (by simp) h5).mono ?_
    rintro e w' ⟨rfl, rfl⟩
    go_wp2
    go_ret2
    exact ⟨rfl, bel2 _ _ _⟩

end Go.Proofs.Ytfhlokjpdkmdjaa.cents

/- The least of two numbers. -/
namespace Go.Proofs.Ytfhlokjpdkmdjaa.tar
open Go.RowKit
theorem run_min (x y m : Int) (h : min x y = m) (w : World) : (Builtin.min_ #[3, 3] 3 #[.int .i64 x, .int .i64 y]).run Try.prog w = .ok (.int .i64 m) w := by
  subst h
  unfold Builtin.min_
  by_cases h : y < x
  · rw [show min x y = y by omega]
    simp [Builtin.min2, go_sem]
    omega
  · rw [show min x y = x by omega]
    simp [Builtin.min2, go_sem]
    omega
end Go.Proofs.Ytfhlokjpdkmdjaa.tar

/- What a debt grows by in a month, in the program. -/
namespace Go.Proofs.Ytfhlokjpdkmdjaa.deb
open Go.Proofs.Ytfhlokjpdkmdjaa.tar (Du du0 Came RowD Ld ErrPost TwoPost PairT GaveD)
open Go.RowKit
set_option maxRecDepth 100000
set_option linter.unusedVariables false
set_option linter.unusedSimpArgs false

theorem grow_more {b x : Int} (hx : 0 ≤ x) (hx1 : x ≤ 1000000000) (hb : 0 ≤ b) : grow b x = x + min (x * b / 10000) (1000000000 - x) := by
  unfold grow
  have := Int.mul_nonneg hx hb
  generalize x * b = p at *
  omega
set_option maxHeartbeats 2000000 in
theorem pgrowth (x b : Int) (w : World) (hx : 0 ≤ x ∧ x ≤ 1000000000) (hb : 0 ≤ b ∧ b ≤ 10000) : Calls Try.prog 108 #[.agg #[.int .i64 x, .int .i64 b]] w fun e w' => e = .returned (.int .i64 (min (x * b / 10000) (1000000000 - x))) ∧ Below w.heap.size w w' := by
  have HPA : Hid (∀ W, Calls Try.prog 98 #[.int .i64 x, .int .i64 b] W fun e w' => e = .returned (.tuple #[.int .i64 (x * b / 10000), .int .i64 0]) ∧ Below W.heap.size W w') := fun W => cents.part_yes x b W hx.1 (by omega) hb.1 hb.2
  have HBX : Hid (Blk (w.alloc (.cells #[.int .i64 x, .int .i64 b] 25)) w.heap.size #[.int .i64 x, .int .i64 b] 25) := Blk.new w _ _
  have HBW : Hid (Below w.heap.size w (w.alloc (.cells #[.int .i64 x, .int .i64 b] 25))) := (Below.refl _ _).alloc (Nat.le_refl _) _
  obtain ⟨hx0, hx1⟩ := hx
  clear hb
  have hmin := tar.run_min (x * b / 10000) (1000000000 - x) _ rfl
  generalize x * b / 10000 = q at *
  generalize min q (1000000000 - x) = m at *
  go_enter Try.func108, Try.ntmps108
  go_wp2_with fail
  refine (HPA.out _).mono ?_
  rintro e w1 ⟨rfl, hb1⟩
  have HB1 := shB HBW hb1
  have c0 : w1.cell? ⟨w.heap.size, 0, none⟩ = some (.int .i64 x) := (HBX.out.next hb1).cell 0
  have c1 : w1.cell? ⟨w.heap.size, 1, none⟩ = some (.int .i64 b) := (HBX.out.next hb1).cell 1
  clear hb1 HPA HBX HBW
  go_wp2_with fail
  go_ret
  exact ⟨rfl, HB1.out⟩

end Go.Proofs.Ytfhlokjpdkmdjaa.deb

/- Debts in memory of their own that grow. -/
namespace Go.Proofs.Ytfhlokjpdkmdjaa.deb
open Go.Proofs.Ytfhlokjpdkmdjaa.tar (Du du0 Came RowD Ld ErrPost TwoPost PairT GaveD)
open Go.RowKit
set_option maxRecDepth 100000
set_option linter.unusedVariables false
set_option linter.unusedSimpArgs false

/-- Debts that have grown, as far as the place k. -/
def mixK (l : List Du) (m k : Nat) : List Du := ageAll (l.take k) m ++ l.drop k
theorem mix_zero (l : List Du) (m : Nat) : mixK l m 0 = l := rfl
theorem mix_all (l : List Du) (m k : Nat) (h : l.length = k) : mixK l m k = ageAll l m := by
  subst h
  unfold mixK
  rw [List.take_length, List.drop_length, List.append_nil]
theorem mix_len (l : List Du) (m k : Nat) (hk : k ≤ l.length) : (mixK l m k).length = l.length := by
  unfold mixK
  rw [List.length_append, ageAll_len, List.length_take, List.length_drop]; omega
theorem drop_one (l : List Du) (k : Nat) (hk : k < l.length) : l.drop k = l.getD k du0 :: l.drop (k + 1) := by
  rw [List.drop_eq_getElem_cons hk]
  simp [List.getD, List.getElem?_eq_getElem hk]
theorem mix_at (l : List Du) (m k : Nat) (hk : k < l.length) : (mixK l m k).getD k du0 = l.getD k du0 := by
  unfold mixK
  have e : (ageAll (l.take k) m).length = k := by rw [ageAll_len, List.length_take]; omega
  rw [drop_one l k hk, List.getD, List.getElem?_append_right (by omega), e, Nat.sub_self]; simp
theorem mix_set (l : List Du) (m k : Nat) (hk : k < l.length) (d : Du) : (mixK l m k).set k d = ageAll (l.take k) m ++ d :: l.drop (k + 1) := by
  unfold mixK
  have e : (ageAll (l.take k) m).length = k := by rw [ageAll_len, List.length_take]; omega
  rw [drop_one l k hk, List.set_append_right _ _ (by omega), e, Nat.sub_self, List.set_cons_zero]
theorem mix_next (l : List Du) (m k : Nat) (hk : k < l.length) : (mixK l m k).set k ⟨growN (l.getD k du0).b m (l.getD k du0).a, (l.getD k du0).b⟩ = mixK l m (k + 1) := by
  rw [mix_set l m k hk]
  unfold mixK
  rw [ageAll_take l m k hk]; simp
theorem mix_same (l : List Du) (m k : Nat) (hk : k < l.length) : (mixK l m k).set k ⟨growN (l.getD k du0).b 0 (l.getD k du0).a, (l.getD k du0).b⟩ = mixK l m k := by
  rw [mix_set l m k hk]
  show ageAll (l.take k) m ++ l.getD k du0 :: l.drop (k + 1) = mixK l m k
  unfold mixK
  rw [drop_one l k hk]
theorem cells_set (l : List Du) (k : Nat) (hk : k < l.length) (x b : Int) (hb : (l.getD k du0).b = b) : tar.cellsD (l.set k ⟨x, b⟩) = (tar.cellsD l).set (k * 2) (.int .i64 x) := by
  induction l generalizing k with
  | nil => simp at hk
  | cons d l ih =>
    cases k with
    | zero =>
      have e : d.b = b := by simpa using hb
      subst e; rfl
    | succ k =>
      rw [show (k + 1) * 2 = k * 2 + 1 + 1 by omega]
      have h1 : k < l.length := by simpa using hk
      have h2 := ih k h1 (by simpa using hb)
      show tar.cellsD (d :: l.set k ⟨x, b⟩) = _
      simp only [tar.cellsD, List.set_cons_succ, h2]
/-- One debt is stored anew. -/
theorem ld_put {T : TypeId} {w W : World} {base g n cap : Nat} {l : List Du} {cur : Array Value} (h : Ld T w base (.slice (some ⟨g, 0, none⟩) n cap) l) (hB : Blk w g cur T) (k : Nat) (hk : k < l.length) (x b : Int) (hb : (l.getD k du0).b = b) (hU : Upd w W g (cur.setIfInBounds (k * 2) (.int .i64 x)) T) : Ld T W base (.slice (some ⟨g, 0, none⟩) n cap) (l.set k ⟨x, b⟩) := by
  unfold Ld at *
  rw [List.length_set, cells_set l k hk x b hb]
  refine ⟨by rw [List.length_set]; exact h.1, ?_⟩
  rcases h.2 with ⟨h', _⟩ | ⟨g', cap', cur', hv, hg, hc, hn, hm, hz, ht⟩
  · cases h'
  · simp only [Value.slice.injEq, Option.some.injEq, Addr.mk.injEq, and_true] at hv
    obtain ⟨rfl, rfl, rfl⟩ := hv
    have e : cur' = cur := by
      have h1 : w.heap[g]? = some (.cells cur T (0, 0)) := hB
      rw [h1] at hc
      injection hc with hc
      injection hc with hc
      exact hc.symm
    subst e
    exact .inr ⟨g, cap, _, rfl, hg, hU.blk, hn, hm, by simpa using hz, by rw [Array.toList_setIfInBounds, ← ht, List.take_set]⟩
/-- Where debts lie that are not none. -/
theorem ld_lies {T : TypeId} {w : World} {base n cap : Nat} {a : Option Addr} {l : List Du} (h : Ld T w base (.slice a n cap) l) (hn : 0 < n) : ∃ g cur, a = some ⟨g, 0, none⟩ ∧ base ≤ g ∧ Blk w g cur T ∧ n * 2 ≤ cur.size ∧ (∀ k, k < l.length → w.cell? ⟨g, k * 2, none⟩ = some (.int .i64 (l.getD k du0).a) ∧ w.cell? ⟨g, k * 2 + 1, none⟩ = some (.int .i64 (l.getD k du0).b)) := by
  rcases h.2 with ⟨h', h0⟩ | ⟨g, cap', cur, hv, hg, hc, hle, hm, hz, ht⟩
  · simp only [Value.slice.injEq] at h'; omega
  · simp only [Value.slice.injEq] at hv
    obtain ⟨rfl, rfl, rfl⟩ := hv
    refine ⟨g, cur, rfl, hg, hc, by omega, fun k hk => ?_⟩
    have e1 := World.ownsRow.cellAt h (k * 2) (by omega)
    have e2 := World.ownsRow.cellAt h (k * 2 + 1) (by omega)
    rw [e1, e2]
    exact tar.cellsD_at l k hk

end Go.Proofs.Ytfhlokjpdkmdjaa.deb

/- debt.Age: what is asked of it. -/
namespace Go.Proofs.Ytfhlokjpdkmdjaa.deb
open Go.Proofs.Ytfhlokjpdkmdjaa.tar (Du du0 Came TwoPost)
open Go.RowKit

def KdAge : Prop := ∀ (W : World) (a : Option Addr) (len cap : Nat) (ls : List Du) (m : Int), Came W a len cap ls → (Lit.int .i64 m).wf = true → Calls Try.prog 106 #[.slice a len cap, .int .i64 m] W fun e w' => AgePost W ls m e w'

end Go.Proofs.Ytfhlokjpdkmdjaa.deb

/- debt.Age. -/
namespace Go.Proofs.Ytfhlokjpdkmdjaa.deb
open Go.Proofs.Ytfhlokjpdkmdjaa.tar (Du du0 Came RowD Ld ErrPost TwoPost PairT GaveD)
open Go.RowKit
set_option maxRecDepth 100000
set_option linter.unusedVariables false
set_option linter.unusedSimpArgs false

set_option maxHeartbeats 4000000 in
theorem kage : KdAge := by
  intro w a len cap ls mo hcame hmw
  have hr := hcame.row
  have HBY : Hid (len * 16 ≤ 140737488351232) := hcame.bytes
  have HNIL : Hid (a = none → cap = 0) := hcame.nil
  have HFA : Hid (Calls Try.prog 94 #[.slice a len cap] w fun e w' => ∃ f, e = .returned (.int .i64 f) ∧ FaultIs ls f ∧ Below w.heap.size w w') := pcheck a len cap ls w hr hcame.most
  have HIM : Hid (∀ W, Calls Try.prog 101 #[.int .i64 0, .int .i64 2400, .int .i64 mo] W fun e w' => e = .returned (.bool (decide (0 ≤ mo ∧ mo ≤ 2400))) ∧ w' = W) := fun W => dwithin 0 2400 mo W
  have HROW0 : Hid (RowD w a len ls) := hr
  clear hcame hr hmw
  go_enter Try.func106, Try.ntmps106
  go_wp2_with fail
  go_step3
  go_wp2_with fail
  refine HFA.out.mono ?_
  rintro e w1 ⟨f, rfl, hf, hb1⟩
  have HB1 : Hid (Below w.heap.size w w1) := hb1
  have HF : Hid (FaultIs ls f) := hf
  clear hb1 HFA
  by_cases h0 : f = 0
  · subst h0
    have hm := hf.ok.1 rfl
    have HM : Hid (Mays ls) := hm
    have HROW : Hid (RowD w1 a len ls) := HROW0.out.below HB1.out
    have HLEN : Hid (ls.length = len) := HROW.out.1
    have hl8 : len ≤ 8 := by have := hm.1; have := HLEN.out; omega
    clear hf hm HROW0 HF
    by_cases hmm : 0 ≤ mo ∧ mo ≤ 2400
    · rw [decide_eq_true hmm] at HIM
      have HMO : Hid (0 ≤ mo ∧ mo ≤ 2400) := hmm
      obtain ⟨m, rfl⟩ := Int.eq_ofNat_of_zero_le hmm.1
      have hm2 : m ≤ 2400 := by omega
      have HMT : Hid ((m : Int).toNat = m) := by show _ = _; omega
      clear hmm
      go_wp2_with fail
      refine (HIM.out _).mono ?_
      rintro e w2 ⟨rfl, hw2⟩
      subst hw2
      clear HIM
      cases a with
      | none =>
        have hc0 := HNIL.out rfl
        have hl0 : len = 0 := by rcases HROW.out.2 with h | ⟨b, off, h, _⟩; exact h; cases h
        subst hc0 hl0
        have happ : ∀ w : World, (Builtin.append_ #[53, 53] 53 #[.slice none 0 0, .slice none 0 0]).run Try.prog w = .ok (.slice none 0 0) w := fun w => by kernel_rfl
        have HAI : Hid (AgeIs ls (m : Int) (ageAll ls m) 0) := .inr (.inr ⟨HM.out, HMO.out, rfl, by rw [HMT.out]⟩)
        have HZ : Hid (ageAll ls m = []) := by
          obtain rfl : ls = [] := List.eq_nil_of_length_eq_zero HLEN.out
          rfl
        go_wp2_with fail
        go_step3
        go_wp2_with fail
        go_loopg [22] 0 (fun g z wr => z = .int .i64 0 ∧ wr = w2)
        case atStart => exact ⟨rfl, rfl⟩
        case round =>
          obtain ⟨rfl, rfl⟩ := hrel
          go_wp2_with fail
          try rw [Exit.noGoto_ret]
          go_ret2
          exact ⟨none, 0, 0, _, 0, rfl, HAI.out, by rw [HZ.out]; exact fresh_nil _ _, HB1.out⟩
      | some A =>
        go_wp2_with (first
          | (at_builtin; refine tar.wp_pairs debtT rfl _ _ rfl w2.heap.size A len cap ls rfl rfl HROW.out HBY.out (Nat.le_refl _) ?_)
          | fail)
        intro v3 w3 hown hg
        obtain ⟨a3, cap3, hv3, hcm⟩ := ld_mays hown HM.out
        rw [HLEN.out] at hv3
        subst hv3
        have HL3 : Hid (Ld 25 w3 w2.heap.size (.slice a3 len cap3) ls) := hown
        have HB3 : Hid (Below w2.heap.size w2 w3) := (Below.refl _ _).grown hg (Nat.le_refl _) (fun k hk => by cases hk)
        clear hown hg hcm
        go_wp2_with fail
        go_step3
        go_wp2_with fail
        have HMIX : Hid (Ld 25 w3 w2.heap.size (.slice a3 len cap3) (mixK ls m 0)) := HL3.out
        go_loopg [22] len (fun g z wr => ∃ k : Nat, k + g = len ∧ z = .int .i64 (k : Int) ∧ Ld 25 wr w2.heap.size (.slice a3 len cap3) (mixK ls m k) ∧ Below w2.heap.size w2 wr)
        case atStart => exact ⟨0, by omega, rfl, HMIX.out, HB3.out⟩
        case round =>
          obtain ⟨k, hkg, rfl, hl, hb⟩ := hrel
          have HLK : Hid (Ld 25 wr w2.heap.size (.slice a3 len cap3) (mixK ls m k)) := hl
          have HBK : Hid (Below w2.heap.size w2 wr) := hb
          clear hl hb HMIX HL3 HB3
          cases gk with
          | zero =>
            obtain rfl : k = len := by omega
            have hdl : decide ((k : Int) < (k : Int)) = false := by simp
            have HAI : Hid (AgeIs ls (m : Int) (ageAll ls m) 0) := .inr (.inr ⟨HM.out, HMO.out, rfl, by rw [HMT.out]⟩)
            have HLE : Hid (Ld 25 wr w2.heap.size (.slice a3 k cap3) (ageAll ls m)) := by have := HLK.out; rw [mix_all ls m k HLEN.out] at this; exact this
            have HCM : Hid (Fresh wr w.heap.size a3 k cap3 (ageAll ls m)) := by
              obtain ⟨a4, cap4, hv4, hcm⟩ := ld_fresh HLE.out (ageAll_mays HM.out m)
              have e : (ageAll ls m).length = k := by rw [ageAll_len]; exact HLEN.out
              rw [e] at hv4 hcm
              simp only [Value.slice.injEq, true_and] at hv4
              obtain ⟨rfl, rfl⟩ := hv4
              exact hcm.low HB1.out.size
            have HB9 : Hid (Below w.heap.size w wr) := HB1.out.trans (HBK.out.mono HB1.out.size)
            clear HLK HLE
            generalize ageAll ls m = Z at *
            go_wp2_with fail
            try rw [Exit.noGoto_ret]
            go_ret2
            exact ⟨a3, k, cap3, Z, 0, rfl, HAI.out, HCM.out, HB9.out⟩
          | succ g =>
            have hlt : k < len := by omega
            have hdl : decide ((k : Int) < (len : Int)) = true := by simp; omega
            have hkl : k < ls.length := by rw [HLEN.out]; exact hlt
            have ho := HM.out.2 k hkl
            have HML : Hid ((mixK ls m k).length = len) := by show _ = _; rw [mix_len ls m k (by omega)]; exact HLEN.out
            have HSM : Hid ((mixK ls m k).set k ⟨growN (ls.getD k du0).b 0 (ls.getD k du0).a, (ls.getD k du0).b⟩ = mixK ls m k) := mix_same ls m k hkl
            have HNX : Hid ((mixK ls m k).set k ⟨growN (ls.getD k du0).b m (ls.getD k du0).a, (ls.getD k du0).b⟩ = mixK ls m (k + 1)) := mix_next ls m k hkl
            have hx0 := ho.1.1
            have hx1 := ho.1.2
            have hy0 := ho.2.1
            have hy1 := ho.2.2
            clear ho hkl
            generalize (ls.getD k du0).a = x at *
            generalize (ls.getD k du0).b = y at *
            go_wp2_with fail
            go_loopg [26] m (fun g2 z wy => ∃ j : Nat, j + g2 = m ∧ z = .int .i64 (j : Int) ∧ Ld 25 wy w2.heap.size (.slice a3 len cap3) ((mixK ls m k).set k ⟨growN y j x, y⟩) ∧ Below w2.heap.size w2 wy)
            case atStart => exact ⟨0, by omega, rfl, by rw [HSM.out]; exact HLK.out, HBK.out⟩
            case round =>
              rename_i wo
              obtain ⟨j, hjg, rfl, hl, hb⟩ := hrel
              have HLJ : Hid (Ld 25 wr w2.heap.size (.slice a3 len cap3) ((mixK ls m k).set k ⟨growN y j x, y⟩)) := hl
              have HBJ : Hid (Below w2.heap.size w2 wr) := hb
              clear hl hb HLK HBK HSM
              cases gk with
              | zero =>
                obtain rfl : j = m := by omega
                have hdj : decide ((j : Int) < (j : Int)) = false := by simp
                have HLN : Hid (Ld 25 wr w2.heap.size (.slice a3 len cap3) (mixK ls j (k + 1))) := by have := HLJ.out; rw [HNX.out] at this; exact this
                clear HLJ HNX
                go_wp2_with fail
                go_roundg g
                case measure => omega
                case rel => exact ⟨k + 1, by omega, by first | rfl | go_num, HLN.out, HBJ.out⟩
              | succ g2 =>
                have hdj : decide ((j : Int) < (m : Int)) = true := by simp; omega
                have hjm : j < m := by omega
                obtain ⟨gg, cur, hga, hgb, hblk, hcs, hcc⟩ := ld_lies HLJ.out (by omega)
                have hcell := hcc k (by rw [List.length_set, HML.out]; exact hlt)
                have hat : ((mixK ls m k).set k ⟨growN y j x, y⟩).getD k du0 = ⟨growN y j x, y⟩ := by
                  have : k < (mixK ls m k).length := by rw [HML.out]; exact hlt
                  simp [List.getD, this]
                rw [hat] at hcell
                obtain ⟨off, hoff⟩ : ∃ off : Nat, off = 0 := ⟨0, rfl⟩
                have HOFF : Hid (off = 0) := hoff
                have hga2 : a3 = some ⟨gg, off, none⟩ := by rw [hga, hoff]
                have c0 : wr.cell? ⟨gg, off + k * 2, none⟩ = some (.int .i64 (growN y j x)) := by rw [hoff, Nat.zero_add]; exact hcell.1
                have c1 : wr.cell? ⟨gg, off + k * 2 + 1, none⟩ = some (.int .i64 y) := by rw [hoff, Nat.zero_add]; exact hcell.2
                have HBL : Hid (Blk wr gg cur 25) := hblk
                have hin : off + k * 2 < cur.size := by omega
                have HGB : Hid (w2.heap.size ≤ gg) := hgb
                clear hcell hat hcc hblk hgb hga hcs hoff
                subst hga2
                have hgn := growN_bd hy0 hy1 hx0 hx1 j
                have hu0 : 0 ≤ growN y j x := by omega
                have hu1 := hgn.2
                have HGS : Hid (growN y (j + 1) x = grow y (growN y j x)) := rfl
                have HGR : Hid (∀ W, Calls Try.prog 108 #[.agg #[.int .i64 (growN y j x), .int .i64 y]] W fun e w' => e = .returned (.int .i64 (min (growN y j x * y / 10000) (1000000000 - growN y j x))) ∧ Below W.heap.size W w') := fun W => pgrowth _ _ W ⟨hu0, hu1⟩ ⟨hy0, hy1⟩
                have HMO2 : Hid (grow y (growN y j x) = growN y j x + min (growN y j x * y / 10000) (1000000000 - growN y j x)) := grow_more hu0 hu1 hy0
                have hv0 : 0 ≤ min (growN y j x * y / 10000) (1000000000 - growN y j x) := by
                  have := Int.mul_nonneg hu0 hy0
                  generalize growN y j x * y = pp at *
                  omega
                have hv1 : min (growN y j x * y / 10000) (1000000000 - growN y j x) ≤ 1000000000 - growN y j x := Int.min_le_right _ _
                generalize min (growN y j x * y / 10000) (1000000000 - growN y j x) = v at *
                clear hgn
                by_cases hz : v = 0
                · have hvz : (v == 0) = true := by simpa using hz
                  have HST : Hid (growN y m x = growN y j x) := by
                    have h1 : grow y (growN y j x) = growN y j x := by rw [HMO2.out, hz]; omega
                    have h2 := growN_still h1 (m - j)
                    rw [growN_add, show j + (m - j) = m by omega] at h2
                    exact h2
                  have HLN : Hid (Ld 25 wr w2.heap.size (.slice (some ⟨gg, off, none⟩) len cap3) (mixK ls m (k + 1))) := by have := HLJ.out; rw [← HST.out, HNX.out] at this; exact this
                  clear hz HST HNX HLJ
                  generalize growN y j x = u at *
                  go_wp2_with fail
                  refine (HGR.out _).mono ?_
                  rintro e w5 ⟨rfl, hb5⟩
                  have HL5 : Hid (Ld 25 w5 w2.heap.size (.slice (some ⟨gg, off, none⟩) len cap3) (mixK ls m (k + 1))) := HLN.out.next hb5
                  have HB5 := shB HBJ hb5
                  clear hb5 HGR HLN c0 c1
                  go_wp2_with fail
                  go_roundg g
                  case measure => omega
                  case rel => exact ⟨k + 1, by omega, by first | rfl | go_num, HL5.out, HB5.out⟩
                · have hvz : (v == 0) = false := by simpa using hz
                  have HSS : Hid (((mixK ls m k).set k ⟨growN y j x, y⟩).set k ⟨growN y j x + v, y⟩ = (mixK ls m k).set k ⟨growN y (j + 1) x, y⟩) := by show _ = _; rw [List.set_set, HGS.out, HMO2.out]
                  have HAT : Hid ((((mixK ls m k).set k ⟨growN y j x, y⟩).getD k du0).b = y) := by
                    have : k < (mixK ls m k).length := by rw [HML.out]; exact hlt
                    show _ = _
                    simp [List.getD, this]
                  have HKL : Hid (k < ((mixK ls m k).set k ⟨growN y j x, y⟩).length) := by show _ < _; rw [List.length_set, HML.out]; exact hlt
                  clear hz HGS HMO2
                  generalize (mixK ls m k).set k ⟨growN y j x, y⟩ = Z at *
                  generalize growN y j x = u at *
                  go_wp2_with fail
                  refine (HGR.out _).mono ?_
                  rintro e w5 ⟨rfl, hb5⟩
                  have HL5 : Hid (Ld 25 w5 w2.heap.size (.slice (some ⟨gg, off, none⟩) len cap3) Z) := HLJ.out.next hb5
                  have HB5 := shB HBJ hb5
                  have HK5 := shN HBL hb5
                  have e0 : w5.cell? ⟨gg, off + k * 2, none⟩ = some (.int .i64 u) := (hb5.cell (p := ⟨gg, off + k * 2, none⟩) HBL.out.lt).trans c0
                  clear hb5 HGR HLJ c0 c1 HBL HBJ
                  go_wp2_with (first
                    | (refine wp_let1 rfl 3 _ _ rfl gg (off + k * 2) rfl .i64 (u + v) rfl (by kernel_rfl) cur 25 HK5.out hin ?_)
                    | fail)
                  intro W6 hU
                  have HL6 : Hid (Ld 25 W6 w2.heap.size (.slice (some ⟨gg, off, none⟩) len cap3) ((mixK ls m k).set k ⟨growN y (j + 1) x, y⟩)) := by
                    obtain rfl := HOFF.out
                    rw [Nat.zero_add] at hU
                    show Ld _ _ _ _ _
                    rw [← HSS.out]
                    exact ld_put HL5.out HK5.out k HKL.out _ _ HAT.out hU
                  have HB6 : Hid (Below w2.heap.size w2 W6) := hU.bel _ _ HGB.out HB5.out
                  clear hU HL5 HK5 HB5 e0
                  go_wp2_with fail
                  go_roundg g2
                  case measure => omega
                  case rel => exact ⟨j + 1, by omega, by first | rfl | go_num, HL6.out, HB6.out⟩
    · rw [decide_eq_false hmm] at HIM
      have HMO : Hid (¬ (0 ≤ mo ∧ mo ≤ 2400)) := hmm
      clear hmm
      go_wp2_with fail
      refine (HIM.out _).mono ?_
      rintro e w2 ⟨rfl, hw2⟩
      subst hw2
      go_wp2_with fail
      try rw [Exit.noGoto_ret]
      go_ret2
      exact ⟨none, 0, 0, [], 2, rfl, .inr (.inl ⟨HM.out, HMO.out, rfl, rfl⟩), fresh_nil _ _, HB1.out⟩
  · have hne : (f != 0) = true := by simpa using h0
    have HN : Hid (¬ Mays ls) := fun h => h0 (hf.ok.2 h)
    clear hf h0 HIM
    go_wp2_with fail
    try rw [Exit.noGoto_ret]
    go_ret2
    exact ⟨none, 0, 0, [], f, rfl, .inl ⟨HN.out, HF.out, rfl⟩, fresh_nil _ _, HB1.out⟩

end Go.Proofs.Ytfhlokjpdkmdjaa.deb

/- An account at work is rolled on. -/
namespace Go.Proofs.Ytfhlokjpdkmdjaa.acc
open Go.Proofs.Ytfhlokjpdkmdjaa.tar (Du du0 Came RowD Ld PairT)
open Go.RowKit
set_option maxRecDepth 100000
set_option linter.unusedVariables false
set_option linter.unusedSimpArgs false

def RollR (x : Ac) (m : Int) (b0 : Bi) (y : Ac) (b : Bi) (f : Int) : Prop := ((¬ RMay x m ∧ RErr x m f ∧ y = x) ∨ (RMay x m ∧ y = rolled x m ∧ f = 0)) ∧ b = b0
set_option maxHeartbeats 4000000 in
theorem proll (g : Nat) (x : Ac) (b : Bi) (p : Option Addr) (len cap : Nat) (m : Int) (w : World) (hw : Blk w g (wcs x b p len cap) 134) (hd : deb.Fresh w (g + 1) p len cap x.ds) (ha : AMay x) : Calls Try.prog 102 #[.pointer (some ⟨g, 0, none⟩), .int .i64 m] w fun e w' => DPost w g (RollR x m b) e w' := by
  have hgl := hw.lt
  have hmo := ha.2.2.2.2.1
  have HMA : Hid (deb.Mays x.ds) := ha.1
  obtain ⟨me, rv, nx, mo, bo, fr, ds⟩ := x
  obtain ⟨id, te, de, fe, pr, ch, un⟩ := b
  simp only [] at hmo
  have HI : Hid (Blk w g #[.int .i64 me, .int .i64 rv, .int .i64 nx, .int .i64 mo, .int .i64 bo, .int .i64 fr, .slice p len cap, .int .i64 id, .int .i64 te, .int .i64 de, .int .i64 fe, .int .i64 pr, .int .i64 ch, .int .i64 un] 134) := hw
  have HD : Hid (deb.Fresh w (g + 1) p len cap ds) := hd
  have HIM : Hid (∀ W, Calls Try.prog 49 #[.int .i64 0, .int .i64 2399, .int .i64 m] W fun e w' => e = .returned (.bool (decide (0 ≤ m ∧ m ≤ 2399))) ∧ w' = W) := fun W => awithin 0 2399 m W
  have q3 : w.cell? ⟨g, 3, none⟩ = some (.int .i64 mo) := HI.out.cell 3
  clear hw hd ha
  by_cases h1 : 0 ≤ m ∧ m ≤ 2399
  · rw [decide_eq_true h1] at HIM
    by_cases h2 : m < mo
    · have d2 : decide (m < mo) = true := decide_eq_true h2
      have HV : Hid (RollR ⟨me, rv, nx, mo, bo, fr, ds⟩ m ⟨id, te, de, fe, pr, ch, un⟩ ⟨me, rv, nx, mo, bo, fr, ds⟩ ⟨id, te, de, fe, pr, ch, un⟩ 23) := ⟨.inl ⟨fun hh => by have : mo ≤ m := hh.2; omega, .inr ⟨h1, h2, rfl⟩, rfl⟩, rfl⟩
      clear h1 h2 hmo
      go_enter Try.func102, Try.ntmps102
      go_wp2_with fail
      refine (HIM.out _).mono ?_
      rintro e w2 ⟨rfl, hw2⟩
      subst w2
      go_wp2_with fail
      go_ret
      exact ⟨_, _, p, len, cap, 23, rfl, HV.out, HI.out, HD.out, Chg.refl _ _⟩
    · have d2 : decide (m < mo) = false := decide_eq_false h2
      have HRM : Hid (RMay ⟨me, rv, nx, mo, bo, fr, ds⟩ m) := ⟨h1, by show mo ≤ m; omega⟩
      by_cases h3 : mo < m
      · have d3 : decide (mo < m) = true := decide_eq_true h3
        have hwr : IntKind.i64.wrap (m - mo) = m - mo := by rw [IntKind.wrap_i64]; omega
        have HAG : Hid (Calls Try.prog 106 #[.slice p len cap, .int .i64 (m - mo)] w.drew fun e w' => deb.AgePost w.drew ds (m - mo) e w') := deb.kage _ p len cap ds (m - mo) (fresh_drew HD.out).came (tar.wf_mid (by omega) (by omega))
        have HMR : Hid (0 ≤ m - mo ∧ m - mo ≤ 2400) := ⟨by omega, by omega⟩
        have HNE : Hid (¬ m = mo) := by show ¬ _ = _; omega
        clear h1 h2 h3
        go_enter Try.func102, Try.ntmps102
        go_wp2_with fail
        refine (HIM.out _).mono ?_
        rintro e w2 ⟨rfl, hw2⟩
        subst w2
        go_wp2_with fail
        clear HIM d2 d3 q3
        have q6 : w.drew.cell? ⟨g, 6, none⟩ = some (.slice p len cap) := HI.out.cell 6
        refine wp_region_held_drew (S := fun v => v.cell? ⟨g, 3, none⟩ = some (.int .i64 mo)) (by kernel_rfl) (show w.drew.cell? _ = _ from HI.out.cell 3) (fun hHeld => ?_)
        refine take_at 0 26 (.pointer (some ⟨g, 0, none⟩)) _ rfl rfl (by kernel_rfl) (by kernel_rfl) (by kernel_rfl) (fun _ _ _ h => h) (Or.inl ⟨by rfl, fun v hv => by clear hv; go_simp⟩) hHeld ?_
        simp only [Act.put, List.setIfInBounds_toArray, List.set_cons_zero, List.set_cons_succ]
        refine take_at 1 27 (.pointer (some ⟨g, 0, none⟩)) _ rfl rfl (by kernel_rfl) (by kernel_rfl) (by kernel_rfl) (fun _ _ _ h => h) (Or.inl ⟨by rfl, fun v hv => by clear hv; go_simp⟩) hHeld ?_
        simp only [Act.put, List.setIfInBounds_toArray, List.set_cons_zero, List.set_cons_succ]
        refine take_at 2 28 (.pointer (some ⟨g, 0, none⟩)) _ rfl rfl (by kernel_rfl) (by kernel_rfl) (by kernel_rfl) (fun _ _ _ h => h) (Or.inl ⟨by rfl, fun v hv => by clear hv; go_simp⟩) hHeld ?_
        simp only [Act.put, List.setIfInBounds_toArray, List.set_cons_zero, List.set_cons_succ]
        refine take_at 3 29 (.pointer (some ⟨g, 0, none⟩)) _ rfl rfl (by kernel_rfl) (by kernel_rfl) (by kernel_rfl) (fun _ _ _ h => h) (Or.inl ⟨by rfl, fun v hv => by clear hv; go_simp⟩) hHeld ?_
        simp only [Act.put, List.setIfInBounds_toArray, List.set_cons_zero, List.set_cons_succ]
        refine take_at 4 30 (.pointer (some ⟨g, 6, none⟩)) _ rfl rfl (by kernel_rfl) (by kernel_rfl) (by kernel_rfl) (fun _ _ _ h => h) (Or.inl ⟨by rfl, fun v hv => by clear hv; go_simp⟩) hHeld ?_
        simp only [Act.put, List.setIfInBounds_toArray, List.set_cons_zero, List.set_cons_succ]
        refine take_at 6 32 (.int .i64 m) _ rfl rfl (by kernel_rfl) (by kernel_rfl) (by kernel_rfl) (fun _ _ _ h => h) (Or.inl ⟨by rfl, fun v hv => by clear hv; go_simp⟩) hHeld ?_
        simp only [Act.put, List.setIfInBounds_toArray, List.set_cons_zero, List.set_cons_succ]
        refine take_at 7 33 (.pointer (some ⟨g, 0, none⟩)) _ rfl rfl (by kernel_rfl) (by kernel_rfl) (by kernel_rfl) (fun _ _ _ h => h) (Or.inl ⟨by rfl, fun v hv => by clear hv; go_simp⟩) hHeld ?_
        simp only [Act.put, List.setIfInBounds_toArray, List.set_cons_zero, List.set_cons_succ]
        refine take_at 8 34 (.pointer (some ⟨g, 0, none⟩)) _ rfl rfl (by kernel_rfl) (by kernel_rfl) (by kernel_rfl) (fun _ _ _ h => h) (Or.inl ⟨by rfl, fun v hv => by clear hv; go_simp⟩) hHeld ?_
        simp only [Act.put, List.setIfInBounds_toArray, List.set_cons_zero, List.set_cons_succ]
        refine take_at 9 35 (.pointer (some ⟨g, 0, none⟩)) _ rfl rfl (by kernel_rfl) (by kernel_rfl) (by kernel_rfl) (fun _ _ _ h => h) (Or.inl ⟨by rfl, fun v hv => by clear hv; go_simp⟩) hHeld ?_
        simp only [Act.put, List.setIfInBounds_toArray, List.set_cons_zero, List.set_cons_succ]
        refine take_at 10 36 (.pointer (some ⟨g, 3, none⟩)) _ rfl rfl (by kernel_rfl) (by kernel_rfl) (by kernel_rfl) (fun _ _ _ h => h) (Or.inl ⟨by rfl, fun v hv => by clear hv; go_simp⟩) hHeld ?_
        simp only [Act.put, List.setIfInBounds_toArray, List.set_cons_zero, List.set_cons_succ]
        refine take_at 11 37 (.int .i64 mo) _ rfl rfl (by kernel_rfl) (by kernel_rfl) (by kernel_rfl) (fun _ _ _ h => h) (Or.inl ⟨by rfl, fun v hv => by have g0 := hv; clear hv; go_simp⟩) hHeld ?_
        simp only [Act.put, List.setIfInBounds_toArray, List.set_cons_zero, List.set_cons_succ]
        refine take_at 12 38 (.int .i64 (m - mo)) _ rfl rfl (by kernel_rfl) (by kernel_rfl) (by kernel_rfl) (fun _ _ _ h => h) (Or.inl ⟨by rfl, fun v hv => by clear hv; go_simp⟩) hHeld ?_
        simp only [Act.put, List.setIfInBounds_toArray, List.set_cons_zero, List.set_cons_succ]
        refine wpAnyH_ready (rs := [5]) (by kernel_rfl) (by simp) (AllReadyH.cons rfl (fun K hK => ?_) AllReadyH.nil)
        rw [if_pos (by rfl)]
        refine wp_runOp (v := .slice p len cap) (w' := w.drew) 31 rfl (by clear hK; go_simp) ?_
        refine hK.out _ _ (show w.drew.cell? _ = _ from HI.out.cell 3) (fun hHeld => ?_)
        clear hK K q6
        simp only [Act.put, List.setIfInBounds_toArray, List.set_cons_zero, List.set_cons_succ]
        refine wpAnyH_ready (rs := [13]) (by kernel_rfl) (by simp) (AllReadyH.cons rfl (fun K hK => ?_) AllReadyH.nil)
        rw [if_pos (by rfl)]
        refine wp_callOp 39 rfl (by clear hK; go_simp) HAG.out ?_
        rintro e w1 ⟨q, n, c, z, f, rfl, hz, hf, hb1⟩
        obtain ⟨rfl, hz2⟩ := hz.got HMA.out HMR.out
        have HI1 : Hid (Blk w1 g #[.int .i64 me, .int .i64 rv, .int .i64 nx, .int .i64 mo, .int .i64 bo, .int .i64 fr, .slice p len cap, .int .i64 id, .int .i64 te, .int .i64 de, .int .i64 fe, .int .i64 pr, .int .i64 ch, .int .i64 un] 134) := (Blk.drew HI.out 1).next hb1
        have HC1 : Hid (Chg w w1 g) := (Chg.of (bel_drew (Below.refl _ _) 1)).trans (.of hb1)
        have HF1 : Hid (deb.Fresh w1 (g + 1) q n c z) := hf.low (by show g + 1 ≤ w.heap.size; omega)
        have HZ : Hid (z = deb.ageAll ds (m - mo).toNat) := hz2
        refine ⟨_, rfl, hK.out _ _ (HI1.out.cell 3) (fun hHeld => ?_)⟩
        clear hK K hz hf hb1 hz2 HAG HI HD
        simp only [Act.put, List.setIfInBounds_toArray, List.set_cons_zero, List.set_cons_succ]
        refine take_at 14 25 (.tuple #[.slice q n c, .int .i64 0]) _ rfl rfl (by kernel_rfl) (by kernel_rfl) (by kernel_rfl) (fun _ _ _ h => h) (Or.inl ⟨by rfl, fun v hv => by clear hv; go_simp⟩) hHeld ?_
        simp only [Act.put, List.setIfInBounds_toArray, List.set_cons_zero, List.set_cons_succ]
        refine take_at 15 40 (.slice q n c) _ rfl rfl (by kernel_rfl) (by kernel_rfl) (by kernel_rfl) (fun _ _ _ h => h) (Or.inl ⟨by rfl, fun v hv => by clear hv; go_simp⟩) hHeld ?_
        simp only [Act.put, List.setIfInBounds_toArray, List.set_cons_zero, List.set_cons_succ]
        refine take_at 16 41 (.int .i64 0) _ rfl rfl (by kernel_rfl) (by kernel_rfl) (by kernel_rfl) (fun _ _ _ h => h) (Or.inl ⟨by rfl, fun v hv => by clear hv; go_simp⟩) hHeld ?_
        simp only [Act.put, List.setIfInBounds_toArray, List.set_cons_zero, List.set_cons_succ]
        refine take_at 17 42 (.pointer (some ⟨g, 0, none⟩)) _ rfl rfl (by kernel_rfl) (by kernel_rfl) (by kernel_rfl) (fun _ _ _ h => h) (Or.inl ⟨by rfl, fun v hv => by clear hv; go_simp⟩) hHeld ?_
        simp only [Act.put, List.setIfInBounds_toArray, List.set_cons_zero, List.set_cons_succ]
        refine take_at 18 43 (.pointer (some ⟨g, 0, none⟩)) _ rfl rfl (by kernel_rfl) (by kernel_rfl) (by kernel_rfl) (fun _ _ _ h => h) (Or.inl ⟨by rfl, fun v hv => by clear hv; go_simp⟩) hHeld ?_
        simp only [Act.put, List.setIfInBounds_toArray, List.set_cons_zero, List.set_cons_succ]
        refine take_at 19 44 (.pointer (some ⟨g, 6, none⟩)) _ rfl rfl (by kernel_rfl) (by kernel_rfl) (by kernel_rfl) (fun _ _ _ h => h) (Or.inl ⟨by rfl, fun v hv => by clear hv; go_simp⟩) hHeld ?_
        simp only [Act.put, List.setIfInBounds_toArray, List.set_cons_zero, List.set_cons_succ]
        refine wpAnyH_ready (rs := [20]) (by kernel_rfl) (by simp) (AllReadyH.cons rfl (fun K hK => ?_) AllReadyH.nil)
        rw [if_pos (by rfl)]
        refine wp_letOp1 53 _ _ rfl g 6 rfl (.slice q n c) rfl rfl (by kernel_rfl) rfl #[.int .i64 me, .int .i64 rv, .int .i64 nx, .int .i64 mo, .int .i64 bo, .int .i64 fr, .slice p len cap, .int .i64 id, .int .i64 te, .int .i64 de, .int .i64 fe, .int .i64 pr, .int .i64 ch, .int .i64 un] 134 HI1.out (by simp) rfl ?_
        intro W2 hU
        have HI2 : Hid (Blk W2 g #[.int .i64 me, .int .i64 rv, .int .i64 nx, .int .i64 mo, .int .i64 bo, .int .i64 fr, .slice q n c, .int .i64 id, .int .i64 te, .int .i64 de, .int .i64 fe, .int .i64 pr, .int .i64 ch, .int .i64 un] 134) := hU.blk
        have HC2 : Hid (Chg w W2 g) := HC1.out.trans (.upd hU)
        have HF2 : Hid (deb.Fresh W2 (g + 1) q n c z) := fresh_chg HF1.out (.upd hU)
        clear hU HF1 HC1
        refine hK.out _ _ (HI2.out.cell 3) (fun hHeld => ?_)
        clear hK K HI1
        refine wpAnyH_done (by kernel_rfl) ?_ _
        clear hHeld
        go_wp2_with (first | (refine wp_let1 rfl 3 _ _ rfl g 3 rfl .i64 m rfl (by kernel_rfl) #[.int .i64 me, .int .i64 rv, .int .i64 nx, .int .i64 mo, .int .i64 bo, .int .i64 fr, .slice q n c, .int .i64 id, .int .i64 te, .int .i64 de, .int .i64 fe, .int .i64 pr, .int .i64 ch, .int .i64 un] 134 HI2.out (by simp) ?_) | fail)
        intro W3 hU
        have HI3 : Hid (Blk W3 g #[.int .i64 me, .int .i64 rv, .int .i64 nx, .int .i64 m, .int .i64 bo, .int .i64 fr, .slice q n c, .int .i64 id, .int .i64 te, .int .i64 de, .int .i64 fe, .int .i64 pr, .int .i64 ch, .int .i64 un] 134) := hU.blk
        have HC3 : Hid (Chg w W3 g) := HC2.out.trans (.upd hU)
        have HF3 : Hid (deb.Fresh W3 (g + 1) q n c z) := fresh_chg HF2.out (.upd hU)
        clear hU HF2 HC2 HI2
        go_wp2_with (first | (refine wp_let1 rfl 3 _ _ rfl g 4 rfl .i64 0 rfl (by kernel_rfl) #[.int .i64 me, .int .i64 rv, .int .i64 nx, .int .i64 m, .int .i64 bo, .int .i64 fr, .slice q n c, .int .i64 id, .int .i64 te, .int .i64 de, .int .i64 fe, .int .i64 pr, .int .i64 ch, .int .i64 un] 134 HI3.out (by simp) ?_) | fail)
        intro W4 hU
        have HI4 : Hid (Blk W4 g #[.int .i64 me, .int .i64 rv, .int .i64 nx, .int .i64 m, .int .i64 0, .int .i64 fr, .slice q n c, .int .i64 id, .int .i64 te, .int .i64 de, .int .i64 fe, .int .i64 pr, .int .i64 ch, .int .i64 un] 134) := hU.blk
        have HC4 : Hid (Chg w W4 g) := HC3.out.trans (.upd hU)
        have HF4 : Hid (deb.Fresh W4 (g + 1) q n c z) := fresh_chg HF3.out (.upd hU)
        have HV : Hid (RollR ⟨me, rv, nx, mo, bo, fr, ds⟩ m ⟨id, te, de, fe, pr, ch, un⟩ ⟨me, rv, nx, m, 0, fr, z⟩ ⟨id, te, de, fe, pr, ch, un⟩ 0) := ⟨.inr ⟨HRM.out, by unfold rolled; rw [if_neg HNE.out, HZ.out], rfl⟩, rfl⟩
        clear hU HF3 HC3 HI3
        go_wp2_with fail
        go_ret
        exact ⟨⟨me, rv, nx, m, 0, fr, z⟩, _, q, n, c, 0, rfl, HV.out, HI4.out, HF4.out, HC4.out⟩
      · have d3 : decide (mo < m) = false := decide_eq_false h3
        have HV : Hid (RollR ⟨me, rv, nx, mo, bo, fr, ds⟩ m ⟨id, te, de, fe, pr, ch, un⟩ ⟨me, rv, nx, mo, bo, fr, ds⟩ ⟨id, te, de, fe, pr, ch, un⟩ 0) := ⟨.inr ⟨HRM.out, by unfold rolled; rw [if_pos (by show m = mo; omega)], rfl⟩, rfl⟩
        clear h1 h2 h3 hmo
        go_enter Try.func102, Try.ntmps102
        go_wp2_with fail
        refine (HIM.out _).mono ?_
        rintro e w2 ⟨rfl, hw2⟩
        subst w2
        go_wp2_with fail
        go_ret
        exact ⟨_, _, p, len, cap, 0, rfl, HV.out, HI.out, HD.out, Chg.refl _ _⟩
  · rw [decide_eq_false h1] at HIM
    have HV : Hid (RollR ⟨me, rv, nx, mo, bo, fr, ds⟩ m ⟨id, te, de, fe, pr, ch, un⟩ ⟨me, rv, nx, mo, bo, fr, ds⟩ ⟨id, te, de, fe, pr, ch, un⟩ 2) := ⟨.inl ⟨fun hh => h1 hh.1, .inl ⟨h1, rfl⟩, rfl⟩, rfl⟩
    clear h1 hmo q3
    go_enter Try.func102, Try.ntmps102
    go_wp2_with fail
    refine (HIM.out _).mono ?_
    rintro e w2 ⟨rfl, hw2⟩
    subst w2
    go_wp2_with fail
    go_ret
    exact ⟨_, _, p, len, cap, 2, rfl, HV.out, HI.out, HD.out, Chg.refl _ _⟩

end Go.Proofs.Ytfhlokjpdkmdjaa.acc

/- An account at work begins, by terms. -/
namespace Go.Proofs.Ytfhlokjpdkmdjaa.acc
open Go.Proofs.Ytfhlokjpdkmdjaa.tar (Du du0 Came RowD Ld PairT)
open Go.RowKit
set_option maxRecDepth 100000
set_option linter.unusedVariables false
set_option linter.unusedSimpArgs false

def BeginR (x : Ac) (t : Tm) (m : Int) (b0 : Bi) (y : Ac) (b : Bi) (f : Int) : Prop := ((¬ TRight t ∧ TFault t f ∧ y = x) ∨ (TRight t ∧ ¬ RMay x m ∧ RErr x m f ∧ y = x) ∨ (TRight t ∧ RMay x m ∧ y = rolled x m ∧ f = 0)) ∧ b = b0
set_option maxHeartbeats 2000000 in
theorem pbegin (g : Nat) (x : Ac) (p : Option Addr) (len cap : Nat) (t : Tm) (pt : Option Addr) (lt ct : Nat) (b : Bi) (m : Int) (w : World) (hw : Blk w g (wcs x b p len cap) 134) (hd : deb.Fresh w (g + 1) p len cap x.ds) (ha : AMay x) (ht : Came w pt lt ct t.ts) (hwf : wf4 t) (hfar : Far pt lt g) : Calls Try.prog 96 #[.pointer (some ⟨g, 0, none⟩), .agg #[.slice pt lt ct, .int .i64 t.ff, .int .i64 t.fb, .int .i64 t.db, .int .i64 t.al], .int .i64 m] w fun e w' => DPost w g (BeginR x t m b) e w' := by
  have hgl := hw.lt
  have HCK : Hid (∀ W, Below w.heap.size w W → Calls Try.prog 32 #[.agg #[.slice pt lt ct, .int .i64 t.ff, .int .i64 t.fb, .int .i64 t.db, .int .i64 t.al]] W fun e w' => tar.ErrPost W (TFault t) e w') := fun W hW => kcheck W t pt lt ct ⟨ht.below hW, hwf⟩
  have HRL : Hid (∀ W, Blk W g (wcs x b p len cap) 134 → deb.Fresh W (g + 1) p len cap x.ds → Calls Try.prog 102 #[.pointer (some ⟨g, 0, none⟩), .int .i64 m] W fun e w' => DPost W g (RollR x m b) e w') := fun W h1 h2 => proll g x b p len cap m W h1 h2 ha
  have H0B : Hid (Below w.heap.size w (w.alloc (.cells #[.slice pt lt ct, .int .i64 t.ff, .int .i64 t.fb, .int .i64 t.db, .int .i64 t.al] 40))) := (Below.refl w.heap.size w).alloc (by simp) _
  have H0t : Hid (Blk (w.alloc (.cells #[.slice pt lt ct, .int .i64 t.ff, .int .i64 t.fb, .int .i64 t.db, .int .i64 t.al] 40)) w.heap.size #[.slice pt lt ct, .int .i64 t.ff, .int .i64 t.fb, .int .i64 t.db, .int .i64 t.al] 40) := Blk.new w _ _
  have H0g : Hid (Blk (w.alloc (.cells #[.slice pt lt ct, .int .i64 t.ff, .int .i64 t.fb, .int .i64 t.db, .int .i64 t.al] 40)) g (wcs x b p len cap) 134) := hw.alloc _
  have H0D : Hid (deb.Fresh (w.alloc (.cells #[.slice pt lt ct, .int .i64 t.ff, .int .i64 t.fb, .int .i64 t.db, .int .i64 t.al] 40)) (g + 1) p len cap x.ds) := hd.below H0B.out
  clear hw hd ha ht hwf hfar
  generalize hWW : (w.alloc (.cells #[.slice pt lt ct, .int .i64 t.ff, .int .i64 t.fb, .int .i64 t.db, .int .i64 t.al] 40)) = W0 at *
  have HWW : Hid ((w.alloc (.cells #[.slice pt lt ct, .int .i64 t.ff, .int .i64 t.fb, .int .i64 t.db, .int .i64 t.al] 40)) = W0) := hWW
  clear hWW
  go_enter Try.func96, Try.ntmps96
  go_upto_region 1 with fail
  rw [HWW.out]
  clear HWW
  go_wp2_with (first
    | (refine wp_whole rfl 40 _ rfl _ rfl 40 _ _ H0t.out Try.underlying40 rfl (by kernel_rfl) ?_)
    | fail)
  refine (HCK.out _ H0B.out).mono ?_
  rintro e w1 ⟨f, rfl, hf, hb1⟩
  have H1g := shN H0g hb1
  have H1D : Hid (deb.Fresh w1 (g + 1) p len cap x.ds) := H0D.out.below hb1
  have H1C : Hid (Chg w w1 g) := .of (bel_step H0B.out hb1)
  have HF : Hid (TFault t f) := hf
  clear hf hb1 H0B H0t H0g H0D HCK
  by_cases h0 : f = 0
  · subst h0
    have HT : Hid (TRight t) := HF.out.ok.1 rfl
    go_wp2_with fail
    refine (HRL.out _ H1g.out H1D.out).mono ?_
    rintro e w2 ⟨y, b2, q, n, c, f, rfl, ⟨hr, hb⟩, hi, hfr, hc⟩
    have HX : Hid (DPost w g (BeginR x t m b) (.returned (.int .i64 f)) w2) := by
      refine ⟨y, b2, q, n, c, f, rfl, ⟨?_, hb⟩, hi, hfr, H1C.out.trans hc⟩
      rcases hr with ⟨h1, h2, h3⟩ | ⟨h1, h2, h3⟩
      · exact .inr (.inl ⟨HT.out, h1, h2, h3⟩)
      · exact .inr (.inr ⟨HT.out, h1, h2, h3⟩)
    clear hr hb hi hfr hc HRL
    go_wp2_with fail
    go_ret
    exact HX.out
  · have d0 : (f != 0) = true := by simpa using h0
    have HX : Hid (DPost w g (BeginR x t m b) (.returned (.int .i64 f)) w1) := ⟨x, b, p, len, cap, f, rfl, ⟨.inl ⟨fun h => h0 (HF.out.ok.2 h), HF.out, rfl⟩, rfl⟩, H1g.out, H1D.out, H1C.out⟩
    clear h0 HRL HF
    go_wp2_with fail
    go_ret
    exact HX.out

end Go.Proofs.Ytfhlokjpdkmdjaa.acc

/- The next number, for an account at work. -/
namespace Go.Proofs.Ytfhlokjpdkmdjaa.acc
open Go.Proofs.Ytfhlokjpdkmdjaa.tar (Du du0 Came RowD Ld PairT)
open Go.RowKit
set_option maxRecDepth 100000
set_option linter.unusedVariables false
set_option linter.unusedSimpArgs false

def NumPost (w : World) (g : Nat) (x : Ac) (b : Bi) (p : Option Addr) (len cap : Nat) (e : Ending) (w' : World) : Prop :=
  Chg w w' g ∧ ((¬ x.nx ≤ 1048575 ∧ e = .returned (.int .i64 20) ∧ Blk w' g (wcs x b p len cap) 134) ∨ (x.nx ≤ 1048575 ∧ e = .returned (.int .i64 0) ∧ Blk w' g (wcs { x with nx := x.nx + 1 } { b with id := x.nx } p len cap) 134))
set_option maxHeartbeats 2000000 in
theorem pnum (g : Nat) (x : Ac) (b : Bi) (p : Option Addr) (len cap : Nat) (w : World) (hw : Blk w g (wcs x b p len cap) 134) (hn : 1 ≤ x.nx ∧ x.nx ≤ 1048576) : Calls Try.prog 100 #[.pointer (some ⟨g, 0, none⟩)] w fun e w' => NumPost w g x b p len cap e w' := by
  obtain ⟨me, rv, nx, mo, bo, fr, ds⟩ := x
  obtain ⟨id, te, de, fe, pr, ch, un⟩ := b
  simp only [] at hn
  have HI : Hid (Blk w g #[.int .i64 me, .int .i64 rv, .int .i64 nx, .int .i64 mo, .int .i64 bo, .int .i64 fr, .slice p len cap, .int .i64 id, .int .i64 te, .int .i64 de, .int .i64 fe, .int .i64 pr, .int .i64 ch, .int .i64 un] 134) := hw
  have q2 : w.cell? ⟨g, 2, none⟩ = some (.int .i64 nx) := HI.out.cell 2
  clear hw
  by_cases h1 : nx ≤ 1048575
  · have d1 : decide (1048575 < nx) = false := decide_eq_false (by omega)
    have hwr : IntKind.i64.wrap (nx + 1) = nx + 1 := by rw [IntKind.wrap_i64]; omega
    have H1 : Hid (nx ≤ 1048575) := h1
    go_enter Try.func100, Try.ntmps100
    go_wp2_with (first | (refine wp_let1 rfl 3 _ _ rfl g 7 rfl .i64 nx rfl (by kernel_rfl) #[.int .i64 me, .int .i64 rv, .int .i64 nx, .int .i64 mo, .int .i64 bo, .int .i64 fr, .slice p len cap, .int .i64 id, .int .i64 te, .int .i64 de, .int .i64 fe, .int .i64 pr, .int .i64 ch, .int .i64 un] 134 HI.out (by simp) ?_) | fail)
    intro W1 hU1
    have HI1 : Hid (Blk W1 g #[.int .i64 me, .int .i64 rv, .int .i64 nx, .int .i64 mo, .int .i64 bo, .int .i64 fr, .slice p len cap, .int .i64 nx, .int .i64 te, .int .i64 de, .int .i64 fe, .int .i64 pr, .int .i64 ch, .int .i64 un] 134) := hU1.blk
    have HC1 : Hid (Chg w W1 g) := .upd hU1
    have q2' : W1.cell? ⟨g, 2, none⟩ = some (.int .i64 nx) := HI1.out.cell 2
    clear hU1 q2 HI d1
    go_wp2_with (first | (refine wp_let1 rfl 3 _ _ rfl g 2 rfl .i64 (nx + 1) rfl (by kernel_rfl) #[.int .i64 me, .int .i64 rv, .int .i64 nx, .int .i64 mo, .int .i64 bo, .int .i64 fr, .slice p len cap, .int .i64 nx, .int .i64 te, .int .i64 de, .int .i64 fe, .int .i64 pr, .int .i64 ch, .int .i64 un] 134 HI1.out (by simp) ?_) | fail)
    intro W2 hU2
    have HI2 : Hid (Blk W2 g #[.int .i64 me, .int .i64 rv, .int .i64 (nx + 1), .int .i64 mo, .int .i64 bo, .int .i64 fr, .slice p len cap, .int .i64 nx, .int .i64 te, .int .i64 de, .int .i64 fe, .int .i64 pr, .int .i64 ch, .int .i64 un] 134) := hU2.blk
    have HC2 : Hid (Chg w W2 g) := HC1.out.trans (.upd hU2)
    clear hU2 q2' HI1 HC1
    go_wp2_with fail
    go_ret
    exact ⟨HC2.out, .inr ⟨H1.out, rfl, HI2.out⟩⟩
  · have d1 : decide (1048575 < nx) = true := decide_eq_true (by omega)
    have H1 : Hid (¬ nx ≤ 1048575) := h1
    clear h1 hn
    go_enter Try.func100, Try.ntmps100
    go_wp2_with fail
    go_ret
    exact ⟨Chg.refl _ _, .inl ⟨Int.not_le.2 H1.out, rfl, HI.out⟩⟩

end Go.Proofs.Ytfhlokjpdkmdjaa.acc

/- An allowance is granted to an account at work. -/
namespace Go.Proofs.Ytfhlokjpdkmdjaa.acc
open Go.Proofs.Ytfhlokjpdkmdjaa.tar (Du du0 Came RowD Ld PairT)
open Go.RowKit
set_option maxRecDepth 100000
set_option linter.unusedVariables false
set_option linter.unusedSimpArgs false

set_option maxHeartbeats 4000000 in
theorem pgrant (g : Nat) (x : Ac) (p : Option Addr) (len cap : Nat) (t : Tm) (pt : Option Addr) (lt ct : Nat) (m : Int) (w : World) (hw : Blk w g (wcs x bi0 p len cap) 134) (hd : deb.Fresh w (g + 1) p len cap x.ds) (ha : AMay x) (ht : Came w pt lt ct t.ts) (hwf : wf4 t) (hfar : Far pt lt g) : Calls Try.prog 90 #[.pointer (some ⟨g, 0, none⟩), .agg #[.slice pt lt ct, .int .i64 t.ff, .int .i64 t.fb, .int .i64 t.db, .int .i64 t.al], .int .i64 m] w fun e w' => DPost w g (Or0 (GrantIs x t m)) e w' := by
  have hgl := hw.lt
  have H0B : Hid (Below w.heap.size w (w.alloc (.cells #[.slice pt lt ct, .int .i64 t.ff, .int .i64 t.fb, .int .i64 t.db, .int .i64 t.al] 40))) := (Below.refl w.heap.size w).alloc (by simp) _
  have H0C : Hid (Chg w (w.alloc (.cells #[.slice pt lt ct, .int .i64 t.ff, .int .i64 t.fb, .int .i64 t.db, .int .i64 t.al] 40)) g) := .of H0B.out
  have H0t : Hid (Blk (w.alloc (.cells #[.slice pt lt ct, .int .i64 t.ff, .int .i64 t.fb, .int .i64 t.db, .int .i64 t.al] 40)) (w.heap.size) #[.slice pt lt ct, .int .i64 t.ff, .int .i64 t.fb, .int .i64 t.db, .int .i64 t.al] 40) := Blk.new w _ _
  have H0g : Hid (Blk (w.alloc (.cells #[.slice pt lt ct, .int .i64 t.ff, .int .i64 t.fb, .int .i64 t.db, .int .i64 t.al] 40)) g (wcs x bi0 p len cap) 134) := hw.alloc _
  have H0D : Hid (deb.Fresh (w.alloc (.cells #[.slice pt lt ct, .int .i64 t.ff, .int .i64 t.fb, .int .i64 t.db, .int .i64 t.al] 40)) (g + 1) p len cap x.ds) := hd.below H0B.out
  have H0T : Hid (Came (w.alloc (.cells #[.slice pt lt ct, .int .i64 t.ff, .int .i64 t.fb, .int .i64 t.db, .int .i64 t.al] 40)) pt lt ct t.ts) := ht.below H0B.out
  have HFAR : Hid (Far pt lt g) := hfar
  have HBG : Hid (∀ W, Blk W g (wcs x bi0 p len cap) 134 → deb.Fresh W (g + 1) p len cap x.ds → Came W pt lt ct t.ts → Calls Try.prog 96 #[.pointer (some ⟨g, 0, none⟩), .agg #[.slice pt lt ct, .int .i64 t.ff, .int .i64 t.fb, .int .i64 t.db, .int .i64 t.al], .int .i64 m] W fun e w' => DPost W g (BeginR x t m bi0) e w') := fun W h1 h2 h3 => pbegin g x p len cap t pt lt ct bi0 m W h1 h2 ha h3 hwf hfar
  have HM : Hid (AMay x) := ha
  have hnx := ha.2.2.2.1
  clear hw hd ht hwf hfar ha H0B
  generalize hWW : (w.alloc (.cells #[.slice pt lt ct, .int .i64 t.ff, .int .i64 t.fb, .int .i64 t.db, .int .i64 t.al] 40)) = W0 at *
  have HWW : Hid ((w.alloc (.cells #[.slice pt lt ct, .int .i64 t.ff, .int .i64 t.fb, .int .i64 t.db, .int .i64 t.al] 40)) = W0) := hWW
  clear hWW
  go_enter Try.func90, Try.ntmps90
  go_upto_region 1 with fail
  rw [HWW.out]
  clear HWW
  go_wp2_with (first | (refine wp_whole rfl 40 _ rfl _ rfl 40 _ _ H0t.out Try.underlying40 rfl (by kernel_rfl) ?_) | fail)
  refine (HBG.out _ H0g.out H0D.out H0T.out).mono ?_
  rintro e w1 ⟨y, b2, q, n, c, f, rfl, ⟨hr, hb2⟩, hi1, hf1, hc1⟩
  subst hb2
  have H1D : Hid (deb.Fresh w1 (g + 1) q n c y.ds) := hf1
  have H1g : Hid (Blk w1 g #[.int .i64 y.me, .int .i64 y.rv, .int .i64 y.nx, .int .i64 y.mo, .int .i64 y.bo, .int .i64 y.fr, .slice q n c, .int .i64 0, .int .i64 0, .int .i64 0, .int .i64 0, .int .i64 0, .int .i64 0, .int .i64 0] 134) := hi1
  have H1t : Hid (Blk w1 (w.heap.size) #[.slice pt lt ct, .int .i64 t.ff, .int .i64 t.fb, .int .i64 t.db, .int .i64 t.al] 40) := Chg.keep (g := g) (hc1) H0t.out (by omega)
  have H1T : Hid (Came w1 pt lt ct t.ts) := came_chg H0T.out (hc1) HFAR.out
  have H1C : Hid (Chg w w1 g) := H0C.out.trans (hc1)
  clear H0C H0g H0t H0T hf1 hc1 hi1 H0D HBG
  by_cases h0 : f = 0
  · skip
    subst h0
    have hrr : TRight t ∧ RMay x m ∧ y = rolled x m := by
      rcases hr with ⟨h1, h2, _⟩ | ⟨_, _, h3, _⟩ | ⟨h1, h2, h3, _⟩
      · exact absurd (h2.ok.1 rfl) h1
      · exact absurd rfl h3.ne
      · exact ⟨h1, h2, h3⟩
    have HRY : Hid (Ready x t m) := ⟨HM.out, hrr.1, hrr.2.1⟩
    have HT : Hid (TRight t) := hrr.1
    have HBR : Hid (y = rolled x m) := hrr.2.2
    have hbs := rolled_same x m
    rw [← hrr.2.2] at hbs
    have hbo := (rolled_may HM.out hrr.2.1).2.2.2.2.2.1
    rw [← hrr.2.2] at hbo
    have hdm : deb.Mays y.ds := by rw [hrr.2.2]; exact (rolled_may HM.out hrr.2.1).1
    have HYN : Hid (y.nx = x.nx) := hbs.2.2.1
    have hyx : 1 ≤ y.nx ∧ y.nx ≤ 1048576 := by rw [hbs.2.2.1]; exact hnx
    have HBS : Hid (y.me = x.me ∧ y.rv = x.rv ∧ y.nx = x.nx ∧ y.mo = m ∧ y.fr = x.fr) := hbs
    clear hrr hr hbs
    by_cases h5 : t.al = 0
    · have d5 : (t.al == 0) = true := by simpa using h5
      have HV : Hid (Or0 (GrantIs x t m) y bi0 22) := .inl ⟨by decide, .inr (.inl ⟨HRY.out, h5, rfl, rfl, rfl⟩)⟩
      clear h5
      have qt4 : w1.cell? ⟨w.heap.size, 4, none⟩ = some (.int .i64 t.al) := H1t.out.cell 4
      go_wp2_with fail
      go_ret
      exact ⟨y, bi0, q, n, c, 22, rfl, HV.out, H1g.out, H1D.out, H1C.out⟩
    · have d5 : (t.al == 0) = false := by simpa using h5
      by_cases h6 : x.fr = m
      · have d6 : (y.fr == m) = true := by simp; rw [HBS.out.2.2.2.2]; exact h6
        have HV : Hid (Or0 (GrantIs x t m) y bi0 21) := .inl ⟨by decide, .inr (.inr (.inl ⟨HRY.out, h5, h6, rfl, rfl, rfl⟩))⟩
        clear h5 h6
        have qt4 : w1.cell? ⟨w.heap.size, 4, none⟩ = some (.int .i64 t.al) := H1t.out.cell 4
        have qg5 : w1.cell? ⟨g, 5, none⟩ = some (.int .i64 y.fr) := H1g.out.cell 5
        go_wp2_with fail
        go_ret
        exact ⟨y, bi0, q, n, c, 21, rfl, HV.out, H1g.out, H1D.out, H1C.out⟩
      · have d6 : (y.fr == m) = false := by simp; rw [HBS.out.2.2.2.2]; exact h6
        have qt4 : w1.cell? ⟨w.heap.size, 4, none⟩ = some (.int .i64 t.al) := H1t.out.cell 4
        have qg5 : w1.cell? ⟨g, 5, none⟩ = some (.int .i64 y.fr) := H1g.out.cell 5
        go_wp2_with (first | (refine wp_let1 rfl 3 _ _ rfl g 5 rfl .i64 m rfl (by kernel_rfl) #[.int .i64 y.me, .int .i64 y.rv, .int .i64 y.nx, .int .i64 y.mo, .int .i64 y.bo, .int .i64 y.fr, .slice q n c, .int .i64 0, .int .i64 0, .int .i64 0, .int .i64 0, .int .i64 0, .int .i64 0, .int .i64 0] 134 H1g.out (by simp) ?_) | fail)
        intro W2 hU
        have H2g : Hid (Blk W2 g #[.int .i64 y.me, .int .i64 y.rv, .int .i64 y.nx, .int .i64 y.mo, .int .i64 y.bo, .int .i64 m, .slice q n c, .int .i64 0, .int .i64 0, .int .i64 0, .int .i64 0, .int .i64 0, .int .i64 0, .int .i64 0] 134) := hU.blk
        have H2t : Hid (Blk W2 (w.heap.size) #[.slice pt lt ct, .int .i64 t.ff, .int .i64 t.fb, .int .i64 t.db, .int .i64 t.al] 40) := Chg.keep (g := g) (.upd hU) H1t.out (by omega)
        have H2T : Hid (Came W2 pt lt ct t.ts) := came_chg H1T.out (.upd hU) HFAR.out
        have H2D : Hid (deb.Fresh W2 (g + 1) q n c y.ds) := fresh_chg H1D.out (.upd hU)
        have H2C : Hid (Chg w W2 g) := H1C.out.trans (.upd hU)
        clear H1C H1g H1t H1T H1D hU qt4 qg5 d5 d6
        have qt4 : W2.cell? ⟨w.heap.size, 4, none⟩ = some (.int .i64 t.al) := H2t.out.cell 4
        go_wp2_with (first | (refine wp_let1 rfl 3 _ _ rfl g 13 rfl .i64 t.al rfl (by kernel_rfl) #[.int .i64 y.me, .int .i64 y.rv, .int .i64 y.nx, .int .i64 y.mo, .int .i64 y.bo, .int .i64 m, .slice q n c, .int .i64 0, .int .i64 0, .int .i64 0, .int .i64 0, .int .i64 0, .int .i64 0, .int .i64 0] 134 H2g.out (by simp) ?_) | fail)
        intro W3 hU
        have H3g : Hid (Blk W3 g #[.int .i64 y.me, .int .i64 y.rv, .int .i64 y.nx, .int .i64 y.mo, .int .i64 y.bo, .int .i64 m, .slice q n c, .int .i64 0, .int .i64 0, .int .i64 0, .int .i64 0, .int .i64 0, .int .i64 0, .int .i64 t.al] 134) := hU.blk
        have H3t : Hid (Blk W3 (w.heap.size) #[.slice pt lt ct, .int .i64 t.ff, .int .i64 t.fb, .int .i64 t.db, .int .i64 t.al] 40) := Chg.keep (g := g) (.upd hU) H2t.out (by omega)
        have H3T : Hid (Came W3 pt lt ct t.ts) := came_chg H2T.out (.upd hU) HFAR.out
        have H3D : Hid (deb.Fresh W3 (g + 1) q n c y.ds) := fresh_chg H2D.out (.upd hU)
        have H3C : Hid (Chg w W3 g) := H2C.out.trans (.upd hU)
        clear H2C H2g H2t H2T H2D hU qt4
        have HGV : Hid (⟨y.me, y.rv, y.nx + 1, y.mo, y.bo, m, y.ds⟩ = granted x m) := by
          show _ = _
          unfold granted
          rw [← HBR.out, HBS.out.1, HBS.out.2.1, HBS.out.2.2.1, HBS.out.2.2.2.1]
        have HNU : Hid (Calls Try.prog 100 #[.pointer (some ⟨g, 0, none⟩)] W3 fun e w' => NumPost W3 g ⟨y.me, y.rv, y.nx, y.mo, y.bo, m, y.ds⟩ ⟨0, 0, 0, 0, 0, 0, t.al⟩ q n c e w') := pnum g ⟨y.me, y.rv, y.nx, y.mo, y.bo, m, y.ds⟩ ⟨0, 0, 0, 0, 0, 0, t.al⟩ q n c W3 H3g.out hyx
        go_wp2_with fail
        refine HNU.out.mono ?_
        rintro e wN ⟨hcN, ⟨hx, rfl, hiN⟩ | ⟨hx, rfl, hiN⟩⟩
        · have HV : Hid (Or0 (GrantIs x t m) ⟨y.me, y.rv, y.nx, y.mo, y.bo, m, y.ds⟩ ⟨0, 0, 0, 0, 0, 0, t.al⟩ 20) := .inl ⟨by decide, .inr (.inr (.inr (.inl ⟨HRY.out, h5, h6, by rw [← HYN.out]; exact hx, rfl, rfl, rfl⟩)))⟩
          have HDN := fresh_chg H3D.out hcN
          have HCN := H3C.out.trans hcN
          clear HNU hx
          go_wp2_with fail
          go_ret
          exact ⟨⟨y.me, y.rv, y.nx, y.mo, y.bo, m, y.ds⟩, ⟨0, 0, 0, 0, 0, 0, t.al⟩, q, n, c, 20, rfl, HV.out, hiN, HDN, HCN⟩
        · have HV : Hid (Or0 (GrantIs x t m) ⟨y.me, y.rv, y.nx + 1, y.mo, y.bo, m, y.ds⟩ ⟨y.nx, 0, 0, 0, 0, 0, t.al⟩ 0) := .inr ⟨rfl, .inr (.inr (.inr (.inr ⟨HRY.out, h5, h6, by rw [← HYN.out]; exact hx, rfl, HGV.out, by rw [HYN.out]⟩)))⟩
          have HDN := fresh_chg H3D.out hcN
          have HCN := H3C.out.trans hcN
          clear HNU hx
          go_wp2_with fail
          go_ret
          exact ⟨⟨y.me, y.rv, y.nx + 1, y.mo, y.bo, m, y.ds⟩, ⟨y.nx, 0, 0, 0, 0, 0, t.al⟩, q, n, c, 0, rfl, HV.out, hiN, HDN, HCN⟩
  · skip
    have d0 : (f != 0) = true := by simpa using h0
    have HV : Hid (Or0 (GrantIs x t m) y bi0 f) := by
      refine .inl ⟨h0, .inl ⟨?_, rfl, rfl⟩⟩
      rcases hr with ⟨h1, h2, _⟩ | ⟨h1, h2, h3, _⟩ | ⟨_, _, _, h1⟩
      · exact .inr (.inl ⟨HM.out, h1, h2⟩)
      · exact .inr (.inr ⟨HM.out, h1, h2, h3⟩)
      · exact absurd h1 h0
    clear hr h0
    go_wp2_with fail
    go_ret
    exact ⟨y, bi0, q, n, c, f, rfl, HV.out, H1g.out, H1D.out, H1C.out⟩

end Go.Proofs.Ytfhlokjpdkmdjaa.acc

/- account.Grant: what is asked of it. -/
namespace Go.Proofs.Ytfhlokjpdkmdjaa.acc
open Go.Proofs.Ytfhlokjpdkmdjaa.tar (Du)
open Go.RowKit

def KcGrant : Prop := ∀ (W : World) (x : Ac) (p : Option Addr) (len cap : Nat) (t : Tm) (pt : Option Addr) (lt ct : Nat) (m : Int), ACame W x p len cap → TCame W t pt lt ct → (Lit.int .i64 m).wf = true → Calls Try.prog 79 #[x.v p len cap, t.v pt lt ct, .int .i64 m] W fun e w' => BPost W (GrantIs x t m) e w'

end Go.Proofs.Ytfhlokjpdkmdjaa.acc

/- account.Grant. -/
namespace Go.Proofs.Ytfhlokjpdkmdjaa.acc
open Go.Proofs.Ytfhlokjpdkmdjaa.tar (Du du0 Came RowD Ld PairT)
open Go.RowKit
set_option maxRecDepth 100000
set_option linter.unusedVariables false
set_option linter.unusedSimpArgs false

set_option maxHeartbeats 1000000 in
theorem pgrant1 (B0 B1 g : Nat) (x : Ac) (p : Option Addr) (len cap : Nat) (t : Tm) (pt : Option Addr) (lt ct : Nat) (m : Int) (w : World) (hB0 : Blk w B0 #[.slice pt lt ct, .int .i64 t.ff, .int .i64 t.fb, .int .i64 t.db, .int .i64 t.al] 40) (hB1 : Blk w B1 #[.int .i64 m] 3) (hw : Blk w g (wcs x bi0 p len cap) 134) (hd : deb.Fresh w (g + 1) p len cap x.ds) (ha : AMay x) (ht : Came w pt lt ct t.ts) (hwf : wf4 t) (hfar : Far pt lt g) : Calls Try.prog 89 #[.pointer (some ⟨g, 0, none⟩), .pointer (some ⟨B0, 0, none⟩), .pointer (some ⟨B1, 0, none⟩)] w fun e w' => WPost w g (Or0 (GrantIs x t m)) e w' := by
  have HIN : Hid (Calls Try.prog 90 #[.pointer (some ⟨g, 0, none⟩), .agg #[.slice pt lt ct, .int .i64 t.ff, .int .i64 t.fb, .int .i64 t.db, .int .i64 t.al], .int .i64 m] w fun e w' => WPost w g (Or0 (GrantIs x t m)) e w') := (pgrant g x p len cap t pt lt ct m w hw hd ha ht hwf hfar).mono fun e w' h => h.w (Nat.le_of_lt hw.lt)
  have HK0 : Hid (Blk w B0 #[.slice pt lt ct, .int .i64 t.ff, .int .i64 t.fb, .int .i64 t.db, .int .i64 t.al] 40) := hB0
  have HK1 : Hid (Blk w B1 #[.int .i64 m] 3) := hB1
  have qB1 : w.cell? ⟨B1, 0, none⟩ = some (.int .i64 m) := hB1.cell 0
  clear hw ha hd ht hwf hfar
  go_enter Try.func89, Try.ntmps89
  go_wp2_with (first | (refine wp_whole rfl 40 _ rfl _ rfl 40 _ _ HK0.out Try.underlying40 rfl (by kernel_rfl) ?_) | fail)
  refine HIN.out.mono ?_
  rintro e w1 hx
  have HX : Hid (WPost w g (Or0 (GrantIs x t m)) e w1) := hx
  obtain ⟨y, b, q, n, c, f, rfl, _⟩ := hx
  clear HIN
  go_wp2_with fail
  go_ret
  exact HX.out
set_option maxHeartbeats 4000000 in
theorem kgrant : KcGrant := by
  intro w x p len cap t pt lt ct m ha ht hm
  unfold Ac.v Ac.cs Tm.v
  obtain ⟨W0, HWW, H0d, H0t, H0m, H0r, H0l, H0B, hs0⟩ := sh5 w #[.int .i64 x.me, .int .i64 x.rv, .int .i64 x.nx, .int .i64 x.mo, .int .i64 x.bo, .int .i64 x.fr, .slice p len cap] 55 #[.slice pt lt ct, .int .i64 t.ff, .int .i64 t.fb, .int .i64 t.db, .int .i64 t.al] 40 #[.int .i64 m] 3 #[.int .i64 0, .int .i64 0, .int .i64 0, .int .i64 0, .int .i64 0, .int .i64 0, .slice none 0 0] 55 #[.int .i64 0, .int .i64 0, .int .i64 0, .int .i64 0, .int .i64 0, .int .i64 0, .int .i64 0] 23
  have H0R : Hid (Came W0 p len cap x.ds) := ha.ds.below H0B.out
  go_enter Try.func79, Try.ntmps79
  go_upto_region 1 with fail
  rw [HWW.out]
  clear HWW
  have HXt : Hid (∀ W, Below W0.heap.size W0 W → Blk W (w.heap.size + 1) #[.slice pt lt ct, .int .i64 t.ff, .int .i64 t.fb, .int .i64 t.db, .int .i64 t.al] 40) := fun W hW => H0t.out.next hW
  have HXm : Hid (∀ W, Below W0.heap.size W0 W → Blk W (w.heap.size + 1 + 1) #[.int .i64 m] 3) := fun W hW => H0m.out.next hW
  have HTC : Hid (Came w pt lt ct t.ts) := ht.ts
  have HBW : Hid (Below w.heap.size w W0) := H0B.out
  have hbw : w.heap.size ≤ W0.heap.size := H0B.out.size
  have HWK : Hid (Calls Try.prog 75 #[.agg #[.int .i64 x.me, .int .i64 x.rv, .int .i64 x.nx, .int .i64 x.mo, .int .i64 x.bo, .int .i64 x.fr, .slice p len cap], .func (.func 89) #[] #[.pointer (some ⟨w.heap.size + 1, 0, none⟩), .pointer (some ⟨w.heap.size + 1 + 1, 0, none⟩)]] W0 fun e w' => BPost W0 (GrantIs x t m) e w') := by
    refine pwork 89 #[.pointer (some ⟨w.heap.size + 1, 0, none⟩), .pointer (some ⟨w.heap.size + 1 + 1, 0, none⟩)] (GrantIs x t m) x p len cap W0 H0R.out (fun h => .inl ⟨.inl ⟨h, rfl⟩, rfl, rfl⟩) (fun _ _ => by kernel_rfl) ?_
    intro hm W g p' cap' hB hg hblk hld
    have HFR : deb.Fresh W (g + 1) p' len cap' x.ds := by
      obtain ⟨a0, c0, hv, hfr⟩ := deb.ld_fresh hld hm.1
      injection hv with h1 h2 h3
      rw [h1, h2, h3]; exact hfr
    have hfar : Far pt lt g := fun hn y hy => by have := came_lt HTC.out hn y hy; omega
    exact pgrant1 _ _ g x p' len cap' t pt lt ct m W (HXt.out W hB) (HXm.out W hB) hblk HFR hm (HTC.out.below (HBW.out.trans (hB.mono hbw))) ht.wf hfar
  clear ha ht HXt HXm
  go_wp2_with (first
    | (refine wp_whole rfl 55 _ rfl _ rfl 55 _ _ H0d.out Try.underlying55 rfl (by kernel_rfl) ?_)
    | (refine wp_whole rfl 40 _ rfl _ rfl 40 _ _ H0t.out Try.underlying40 rfl (by kernel_rfl) ?_)
    | (refine wp_whole rfl 3 _ rfl _ rfl 3 _ _ H0m.out Try.underlying3 rfl (by kernel_rfl) ?_)
    | (refine wp_whole rfl 55 _ rfl _ rfl 55 _ _ H0r.out Try.underlying55 rfl (by kernel_rfl) ?_)
    | (refine wp_whole rfl 23 _ rfl _ rfl 23 _ _ H0l.out Try.underlying23 rfl (by kernel_rfl) ?_)
    | fail)
  refine HWK.out.mono ?_
  rintro e w1 ⟨b, l, pr, lr, cr, fz, rfl, hi, hf, hb1⟩
  have H1d := shN H0d hb1
  have H1t := shN H0t hb1
  have H1m := shN H0m hb1
  have H1r := shN H0r hb1
  have H1l := shN H0l hb1
  have H1R : Hid (Came w1 p len cap x.ds) := H0R.out.below hb1
  have H1B := shB H0B hb1
  have hsw1 : W0.heap.size ≤ w1.heap.size := hb1.size
  clear hb1 H0d H0t H0m H0r H0l H0R H0B
  unfold Ac.v Ac.cs Bi.v
  clear HWK
  have H2F : Hid (deb.Fresh w1 W0.heap.size pr lr cr b.ds) := hf
  have HUPF : Hid (0 < lr → ∀ y, pr = some y → y.block < w1.heap.size) := came_lt H2F.out.came
  have HV : Hid (GrantIs x t m b l fz) := hi
  clear hf hi
  go_wp2_with (first
    | (refine wp_letAll rfl 55 _ _ rfl _ rfl _ rfl (by kernel_rfl) (by simp [Value.oneCell']) _ 55 H1r.out rfl ?_)
    | (refine wp_whole rfl 55 _ rfl _ rfl 55 _ _ H1d.out Try.underlying55 rfl (by kernel_rfl) ?_)
    | (refine wp_whole rfl 40 _ rfl _ rfl 40 _ _ H1t.out Try.underlying40 rfl (by kernel_rfl) ?_)
    | (refine wp_whole rfl 3 _ rfl _ rfl 3 _ _ H1m.out Try.underlying3 rfl (by kernel_rfl) ?_)
    | (refine wp_whole rfl 55 _ rfl _ rfl 55 _ _ H1r.out Try.underlying55 rfl (by kernel_rfl) ?_)
    | (refine wp_whole rfl 23 _ rfl _ rfl 23 _ _ H1l.out Try.underlying23 rfl (by kernel_rfl) ?_)
    | fail)
  intro W4 hU
  have H3d := shK hU H1d (by omega)
  have H3t := shK hU H1t (by omega)
  have H3m := shK hU H1m (by omega)
  have H3r : Hid (Blk W4 (w.heap.size + 1 + 1 + 1) #[.int .i64 b.me, .int .i64 b.rv, .int .i64 b.nx, .int .i64 b.mo, .int .i64 b.bo, .int .i64 b.fr, .slice pr lr cr] 55) := hU.blk
  have H3l := shK hU H1l (by omega)
  have H3F : Hid (deb.Fresh W4 W0.heap.size pr lr cr b.ds) := fresh_updN H2F.out hU (fun hn y hy => by have f1 := H2F.out.new hn y hy; have f2 := HUPF.out hn y hy; omega)
  have H3B := shV hU H1B (by omega)
  have hsW4 : W4.heap.size = w1.heap.size := hU.size
  clear hU H1d H1t H1m H1r H1l H2F H1B
  go_wp2_with (first
    | (refine wp_letAll rfl 23 _ _ rfl _ rfl _ rfl (by kernel_rfl) (by simp [Value.oneCell']) _ 23 H3l.out rfl ?_)
    | (refine wp_whole rfl 55 _ rfl _ rfl 55 _ _ H3d.out Try.underlying55 rfl (by kernel_rfl) ?_)
    | (refine wp_whole rfl 40 _ rfl _ rfl 40 _ _ H3t.out Try.underlying40 rfl (by kernel_rfl) ?_)
    | (refine wp_whole rfl 3 _ rfl _ rfl 3 _ _ H3m.out Try.underlying3 rfl (by kernel_rfl) ?_)
    | (refine wp_whole rfl 55 _ rfl _ rfl 55 _ _ H3r.out Try.underlying55 rfl (by kernel_rfl) ?_)
    | (refine wp_whole rfl 23 _ rfl _ rfl 23 _ _ H3l.out Try.underlying23 rfl (by kernel_rfl) ?_)
    | fail)
  intro W5 hU
  have H4d := shK hU H3d (by omega)
  have H4t := shK hU H3t (by omega)
  have H4m := shK hU H3m (by omega)
  have H4r := shK hU H3r (by omega)
  have H4l : Hid (Blk W5 (w.heap.size + 1 + 1 + 1 + 1) #[.int .i64 l.id, .int .i64 l.te, .int .i64 l.de, .int .i64 l.fe, .int .i64 l.pr, .int .i64 l.ch, .int .i64 l.un] 23) := hU.blk
  have H4F : Hid (deb.Fresh W5 W0.heap.size pr lr cr b.ds) := fresh_updN H3F.out hU (fun hn y hy => by have f1 := H3F.out.new hn y hy; have f2 := HUPF.out hn y hy; omega)
  have H4B := shV hU H3B (by omega)
  have hsW5 : W5.heap.size = W4.heap.size := hU.size
  clear hU H3d H3t H3m H3r H3l H3F H3B
  obtain ⟨Rr0, Rr1, Rr2, Rr3, Rr4, Rr5, Rr6⟩ := shc7 H4r
  obtain ⟨Rl0, Rl1, Rl2, Rl3, Rl4, Rl5, Rl6⟩ := shc7 H4l
  go_wp2_with fail
  exact bodyPost_ret (v := .tuple #[.agg #[.int .i64 b.me, .int .i64 b.rv, .int .i64 b.nx, .int .i64 b.mo, .int .i64 b.bo, .int .i64 b.fr, .slice pr lr cr], .agg #[.int .i64 l.id, .int .i64 l.te, .int .i64 l.de, .int .i64 l.fe, .int .i64 l.pr, .int .i64 l.ch, .int .i64 l.un], .int .i64 fz]) (by simp [results, Try.results79, Rr0.out, Rr1.out, Rr2.out, Rr3.out, Rr4.out, Rr5.out, Rr6.out, Rl0.out, Rl1.out, Rl2.out, Rl3.out, Rl4.out, Rl5.out, Rl6.out, go_sem]) rfl ⟨b, l, pr, lr, cr, fz, rfl, HV.out, H4F.out.low (by omega), H4B.out⟩

end Go.Proofs.Ytfhlokjpdkmdjaa.acc

/- account.Rekey: what is asked of it. -/
namespace Go.Proofs.Ytfhlokjpdkmdjaa.acc
open Go.Proofs.Ytfhlokjpdkmdjaa.tar (Du)
open Go.RowKit

def KcRekey : Prop := ∀ (W : World) (x : Ac) (p : Option Addr) (len cap : Nat), ACame W x p len cap → Calls Try.prog 80 #[x.v p len cap] W fun e w' => BPost W (RekeyIs x) e w'

end Go.Proofs.Ytfhlokjpdkmdjaa.acc

/- account.Rekey. -/
namespace Go.Proofs.Ytfhlokjpdkmdjaa.acc
open Go.Proofs.Ytfhlokjpdkmdjaa.tar (Du du0 Came RowD Ld PairT)
open Go.RowKit
set_option maxRecDepth 100000
set_option linter.unusedVariables false
set_option linter.unusedSimpArgs false

set_option maxHeartbeats 2000000 in
theorem prekey (g : Nat) (x : Ac) (p : Option Addr) (len cap : Nat) (w : World) (hw : Blk w g (wcs x bi0 p len cap) 134) (hd : deb.Fresh w (g + 1) p len cap x.ds) (ha : AMay x) : Calls Try.prog 91 #[.pointer (some ⟨g, 0, none⟩)] w fun e w' => DPost w g (Or0 (RekeyIs x)) e w' := by
  have hrv := ha.2.2.1
  have hnx := ha.2.2.2.1
  have HM : Hid (AMay x) := ha
  have HI : Hid (Blk w g #[.int .i64 x.me, .int .i64 x.rv, .int .i64 x.nx, .int .i64 x.mo, .int .i64 x.bo, .int .i64 x.fr, .slice p len cap, .int .i64 0, .int .i64 0, .int .i64 0, .int .i64 0, .int .i64 0, .int .i64 0, .int .i64 0] 134) := hw
  have HD : Hid (deb.Fresh w (g + 1) p len cap x.ds) := hd
  have q1 : w.cell? ⟨g, 1, none⟩ = some (.int .i64 x.rv) := HI.out.cell 1
  clear hw hd ha
  by_cases h1 : x.rv < 15
  · have d1 : (x.rv == 15) = false := by simp; omega
    have hwr : IntKind.i64.wrap (x.rv + 1) = x.rv + 1 := by rw [IntKind.wrap_i64]; omega
    have H1 : Hid (x.rv < 15) := h1
    go_enter Try.func91, Try.ntmps91
    go_wp2_with (first | (refine wp_let1 rfl 3 _ _ rfl g 1 rfl .i64 (x.rv + 1) rfl (by kernel_rfl) #[.int .i64 x.me, .int .i64 x.rv, .int .i64 x.nx, .int .i64 x.mo, .int .i64 x.bo, .int .i64 x.fr, .slice p len cap, .int .i64 0, .int .i64 0, .int .i64 0, .int .i64 0, .int .i64 0, .int .i64 0, .int .i64 0] 134 HI.out (by simp) ?_) | fail)
    intro W1 hU
    have HI1 : Hid (Blk W1 g #[.int .i64 x.me, .int .i64 (x.rv + 1), .int .i64 x.nx, .int .i64 x.mo, .int .i64 x.bo, .int .i64 x.fr, .slice p len cap, .int .i64 0, .int .i64 0, .int .i64 0, .int .i64 0, .int .i64 0, .int .i64 0, .int .i64 0] 134) := hU.blk
    have HC1 : Hid (Chg w W1 g) := .upd hU
    have HD1 : Hid (deb.Fresh W1 (g + 1) p len cap x.ds) := fresh_chg HD.out (.upd hU)
    have HNU : Hid (Calls Try.prog 100 #[.pointer (some ⟨g, 0, none⟩)] W1 fun e w' => NumPost W1 g ⟨x.me, x.rv + 1, x.nx, x.mo, x.bo, x.fr, x.ds⟩ bi0 p len cap e w') := pnum g ⟨x.me, x.rv + 1, x.nx, x.mo, x.bo, x.fr, x.ds⟩ bi0 p len cap W1 HI1.out hnx
    clear hU q1 HI HD d1 h1
    go_wp2_with fail
    refine HNU.out.mono ?_
    rintro e wN ⟨hcN, ⟨hx, rfl, hiN⟩ | ⟨hx, rfl, hiN⟩⟩
    · have HV : Hid (Or0 (RekeyIs x) ⟨x.me, x.rv + 1, x.nx, x.mo, x.bo, x.fr, x.ds⟩ bi0 20) := .inl ⟨by decide, .inr (.inr (.inl ⟨HM.out, H1.out, hx, rfl, rfl, rfl⟩))⟩
      have HDN := fresh_chg HD1.out hcN
      have HCN := HC1.out.trans hcN
      clear HNU hx
      go_wp2_with fail
      go_ret
      exact ⟨⟨x.me, x.rv + 1, x.nx, x.mo, x.bo, x.fr, x.ds⟩, bi0, p, len, cap, 20, rfl, HV.out, hiN, HDN, HCN⟩
    · have HV : Hid (Or0 (RekeyIs x) ⟨x.me, x.rv + 1, x.nx + 1, x.mo, x.bo, x.fr, x.ds⟩ ⟨x.nx, 0, 0, 0, 0, 0, 0⟩ 0) := .inr ⟨rfl, .inr (.inr (.inr ⟨HM.out, H1.out, hx, rfl, rfl, rfl⟩))⟩
      have HDN := fresh_chg HD1.out hcN
      have HCN := HC1.out.trans hcN
      clear HNU hx
      go_wp2_with fail
      go_ret
      exact ⟨⟨x.me, x.rv + 1, x.nx + 1, x.mo, x.bo, x.fr, x.ds⟩, ⟨x.nx, 0, 0, 0, 0, 0, 0⟩, p, len, cap, 0, rfl, HV.out, hiN, HDN, HCN⟩
  · have d1 : (x.rv == 15) = true := by simp; omega
    have HV : Hid (Or0 (RekeyIs x) x bi0 24) := .inl ⟨by decide, .inr (.inl ⟨HM.out, h1, rfl, rfl, rfl⟩)⟩
    clear h1 hrv hnx
    go_enter Try.func91, Try.ntmps91
    go_wp2_with fail
    go_ret
    exact ⟨x, bi0, p, len, cap, 24, rfl, HV.out, HI.out, HD.out, Chg.refl _ _⟩
set_option maxHeartbeats 4000000 in
theorem krekey : KcRekey := by
  intro w x p len cap ha
  unfold Ac.v Ac.cs
  obtain ⟨W0, HWW, H0d, H0r, H0l, H0B, hs0⟩ := sh3 w #[.int .i64 x.me, .int .i64 x.rv, .int .i64 x.nx, .int .i64 x.mo, .int .i64 x.bo, .int .i64 x.fr, .slice p len cap] 55 #[.int .i64 0, .int .i64 0, .int .i64 0, .int .i64 0, .int .i64 0, .int .i64 0, .slice none 0 0] 55 #[.int .i64 0, .int .i64 0, .int .i64 0, .int .i64 0, .int .i64 0, .int .i64 0, .int .i64 0] 23
  have H0R : Hid (Came W0 p len cap x.ds) := ha.ds.below H0B.out
  go_enter Try.func80, Try.ntmps80
  go_upto_region 1 with fail
  rw [HWW.out]
  clear HWW
  have HWK : Hid (Calls Try.prog 75 #[.agg #[.int .i64 x.me, .int .i64 x.rv, .int .i64 x.nx, .int .i64 x.mo, .int .i64 x.bo, .int .i64 x.fr, .slice p len cap], .func (.func 91) #[] #[]] W0 fun e w' => BPost W0 (RekeyIs x) e w') := by
    refine pwork 91 #[] (RekeyIs x) x p len cap W0 H0R.out (fun h => .inl ⟨h, rfl, rfl, rfl⟩) (fun _ _ => by kernel_rfl) ?_
    intro hm W g p' cap' hB hg hblk hld
    have HFR : deb.Fresh W (g + 1) p' len cap' x.ds := by
      obtain ⟨a0, c0, hv, hfr⟩ := deb.ld_fresh hld hm.1
      injection hv with h1 h2 h3
      rw [h1, h2, h3]; exact hfr
    exact (prekey g x p' len cap' W hblk HFR hm).mono fun e w' h => h.w (Nat.le_of_lt hblk.lt)
  clear ha 
  go_wp2_with (first
    | (refine wp_whole rfl 55 _ rfl _ rfl 55 _ _ H0d.out Try.underlying55 rfl (by kernel_rfl) ?_)
    | (refine wp_whole rfl 55 _ rfl _ rfl 55 _ _ H0r.out Try.underlying55 rfl (by kernel_rfl) ?_)
    | (refine wp_whole rfl 23 _ rfl _ rfl 23 _ _ H0l.out Try.underlying23 rfl (by kernel_rfl) ?_)
    | fail)
  refine HWK.out.mono ?_
  rintro e w1 ⟨b, l, pr, lr, cr, fz, rfl, hi, hf, hb1⟩
  have H1d := shN H0d hb1
  have H1r := shN H0r hb1
  have H1l := shN H0l hb1
  have H1R : Hid (Came w1 p len cap x.ds) := H0R.out.below hb1
  have H1B := shB H0B hb1
  have hsw1 : W0.heap.size ≤ w1.heap.size := hb1.size
  clear hb1 H0d H0r H0l H0R H0B
  unfold Ac.v Ac.cs Bi.v
  clear HWK
  have H2F : Hid (deb.Fresh w1 W0.heap.size pr lr cr b.ds) := hf
  have HUPF : Hid (0 < lr → ∀ y, pr = some y → y.block < w1.heap.size) := came_lt H2F.out.came
  have HV : Hid (RekeyIs x b l fz) := hi
  clear hf hi
  go_wp2_with (first
    | (refine wp_letAll rfl 55 _ _ rfl _ rfl _ rfl (by kernel_rfl) (by simp [Value.oneCell']) _ 55 H1r.out rfl ?_)
    | (refine wp_whole rfl 55 _ rfl _ rfl 55 _ _ H1d.out Try.underlying55 rfl (by kernel_rfl) ?_)
    | (refine wp_whole rfl 55 _ rfl _ rfl 55 _ _ H1r.out Try.underlying55 rfl (by kernel_rfl) ?_)
    | (refine wp_whole rfl 23 _ rfl _ rfl 23 _ _ H1l.out Try.underlying23 rfl (by kernel_rfl) ?_)
    | fail)
  intro W4 hU
  have H3d := shK hU H1d (by omega)
  have H3r : Hid (Blk W4 (w.heap.size + 1) #[.int .i64 b.me, .int .i64 b.rv, .int .i64 b.nx, .int .i64 b.mo, .int .i64 b.bo, .int .i64 b.fr, .slice pr lr cr] 55) := hU.blk
  have H3l := shK hU H1l (by omega)
  have H3F : Hid (deb.Fresh W4 W0.heap.size pr lr cr b.ds) := fresh_updN H2F.out hU (fun hn y hy => by have f1 := H2F.out.new hn y hy; have f2 := HUPF.out hn y hy; omega)
  have H3B := shV hU H1B (by omega)
  have hsW4 : W4.heap.size = w1.heap.size := hU.size
  clear hU H1d H1r H1l H2F H1B
  go_wp2_with (first
    | (refine wp_letAll rfl 23 _ _ rfl _ rfl _ rfl (by kernel_rfl) (by simp [Value.oneCell']) _ 23 H3l.out rfl ?_)
    | (refine wp_whole rfl 55 _ rfl _ rfl 55 _ _ H3d.out Try.underlying55 rfl (by kernel_rfl) ?_)
    | (refine wp_whole rfl 55 _ rfl _ rfl 55 _ _ H3r.out Try.underlying55 rfl (by kernel_rfl) ?_)
    | (refine wp_whole rfl 23 _ rfl _ rfl 23 _ _ H3l.out Try.underlying23 rfl (by kernel_rfl) ?_)
    | fail)
  intro W5 hU
  have H4d := shK hU H3d (by omega)
  have H4r := shK hU H3r (by omega)
  have H4l : Hid (Blk W5 (w.heap.size + 1 + 1) #[.int .i64 l.id, .int .i64 l.te, .int .i64 l.de, .int .i64 l.fe, .int .i64 l.pr, .int .i64 l.ch, .int .i64 l.un] 23) := hU.blk
  have H4F : Hid (deb.Fresh W5 W0.heap.size pr lr cr b.ds) := fresh_updN H3F.out hU (fun hn y hy => by have f1 := H3F.out.new hn y hy; have f2 := HUPF.out hn y hy; omega)
  have H4B := shV hU H3B (by omega)
  have hsW5 : W5.heap.size = W4.heap.size := hU.size
  clear hU H3d H3r H3l H3F H3B
  obtain ⟨Rr0, Rr1, Rr2, Rr3, Rr4, Rr5, Rr6⟩ := shc7 H4r
  obtain ⟨Rl0, Rl1, Rl2, Rl3, Rl4, Rl5, Rl6⟩ := shc7 H4l
  go_wp2_with fail
  exact bodyPost_ret (v := .tuple #[.agg #[.int .i64 b.me, .int .i64 b.rv, .int .i64 b.nx, .int .i64 b.mo, .int .i64 b.bo, .int .i64 b.fr, .slice pr lr cr], .agg #[.int .i64 l.id, .int .i64 l.te, .int .i64 l.de, .int .i64 l.fe, .int .i64 l.pr, .int .i64 l.ch, .int .i64 l.un], .int .i64 fz]) (by simp [results, Try.results80, Rr0.out, Rr1.out, Rr2.out, Rr3.out, Rr4.out, Rr5.out, Rr6.out, Rl0.out, Rl1.out, Rl2.out, Rl3.out, Rl4.out, Rl5.out, Rl6.out, go_sem]) rfl ⟨b, l, pr, lr, cr, fz, rfl, HV.out, H4F.out.low (by omega), H4B.out⟩

end Go.Proofs.Ytfhlokjpdkmdjaa.acc

/- The share of what is handed over, in the program. -/
namespace Go.Proofs.Ytfhlokjpdkmdjaa.deb
open Go.Proofs.Ytfhlokjpdkmdjaa.tar (Du du0 Came RowD Ld ErrPost TwoPost PairT GaveD)
open Go.RowKit
set_option maxRecDepth 100000
set_option linter.unusedVariables false
set_option linter.unusedSimpArgs false

/-- What shareFor gives back. -/
def SharePost (ls : List Du) (t bp : Int) (w : World) (e : Ending) (w' : World) : Prop := ∃ s f, e = .returned (.tuple #[.int .i64 s, .int .i64 f]) ∧ ((¬ Mays ls ∧ FaultIs ls f ∧ s = 0) ∨ (Mays ls ∧ ShareIs t bp s f)) ∧ Below w.heap.size w w'
set_option maxHeartbeats 2000000 in
theorem pshare (a : Option Addr) (len cap : Nat) (ls : List Du) (t bp : Int) (w : World) (hr : RowD w a len ls) (hl : len ≤ maxLen) : Calls Try.prog 103 #[.slice a len cap, .int .i64 t, .int .i64 bp] w fun e w' => SharePost ls t bp w e w' := by
  have HFA : Hid (Calls Try.prog 94 #[.slice a len cap] w fun e w' => ∃ f, e = .returned (.int .i64 f) ∧ FaultIs ls f ∧ Below w.heap.size w w') := pcheck a len cap ls w hr hl
  have HIT : Hid (∀ W, Calls Try.prog 101 #[.int .i64 0, .int .i64 100000000, .int .i64 t] W fun e w' => e = .returned (.bool (decide (0 ≤ t ∧ t ≤ 100000000))) ∧ w' = W) := fun W => dwithin 0 100000000 t W
  clear hr hl
  go_enter Try.func103, Try.ntmps103
  go_wp2_with fail
  refine HFA.out.mono ?_
  rintro e w1 ⟨f, rfl, hf, hb1⟩
  have HB1 : Hid (Below w.heap.size w w1) := hb1
  have HF : Hid (FaultIs ls f) := hf
  clear hb1 HFA
  by_cases h0 : f = 0
  · subst h0
    have HM : Hid (Mays ls) := hf.ok.1 rfl
    clear hf HF
    by_cases ht : 0 ≤ t ∧ t ≤ 100000000
    · rw [decide_eq_true ht] at HIT
      by_cases hb : 0 ≤ bp ∧ bp ≤ 10000
      · have HPA : Hid (∀ W, Calls Try.prog 98 #[.int .i64 t, .int .i64 bp] W fun e w' => e = .returned (.tuple #[.int .i64 (t * bp / 10000), .int .i64 0]) ∧ Below W.heap.size W w') := fun W => cents.part_yes t bp W ht.1 (by omega) hb.1 hb.2
        have HT : Hid (TMay t bp) := ⟨ht, hb⟩
        clear ht hb
        go_wp2_with fail
        refine (HIT.out _).mono ?_
        rintro e w2 ⟨rfl, hw2⟩
        subst hw2
        go_wp2_with fail
        refine (HPA.out _).mono ?_
        rintro e w3 ⟨rfl, hb3⟩
        have HB3 := shB HB1 hb3
        clear hb3
        go_wp2_with fail
        go_ret2
        exact ⟨_, _, rfl, .inr ⟨HM.out, .inl ⟨HT.out, rfl, rfl⟩⟩, HB3.out⟩
      · have HPA : Hid (∀ W, Calls Try.prog 98 #[.int .i64 t, .int .i64 bp] W fun e w' => e = .returned (.tuple #[.int .i64 0, .int .i64 2]) ∧ Below W.heap.size W w') := fun W => cents.part_no t bp W (.inr (by omega))
        have HT : Hid (¬ TMay t bp) := fun h => hb h.2
        clear ht hb
        go_wp2_with fail
        refine (HIT.out _).mono ?_
        rintro e w2 ⟨rfl, hw2⟩
        subst hw2
        go_wp2_with fail
        refine (HPA.out _).mono ?_
        rintro e w3 ⟨rfl, hb3⟩
        have HB3 := shB HB1 hb3
        clear hb3
        go_wp2_with fail
        go_ret2
        exact ⟨_, _, rfl, .inr ⟨HM.out, .inr ⟨HT.out, rfl, rfl⟩⟩, HB3.out⟩
    · rw [decide_eq_false ht] at HIT
      have HT : Hid (¬ TMay t bp) := fun h => ht h.1
      clear ht
      go_wp2_with fail
      refine (HIT.out _).mono ?_
      rintro e w2 ⟨rfl, hw2⟩
      subst hw2
      go_wp2_with fail
      go_ret2
      exact ⟨_, _, rfl, .inr ⟨HM.out, .inr ⟨HT.out, rfl, rfl⟩⟩, HB1.out⟩
  · have hne : (f != 0) = true := by simpa using h0
    have HN : Hid (¬ Mays ls) := fun h => h0 (hf.ok.2 h)
    clear hf h0 HIT
    go_wp2_with fail
    go_ret2
    exact ⟨_, _, rfl, .inl ⟨HN.out, HF.out, rfl⟩, HB1.out⟩

end Go.Proofs.Ytfhlokjpdkmdjaa.deb

/- debt.Recover: what is asked of it. -/
namespace Go.Proofs.Ytfhlokjpdkmdjaa.deb
open Go.Proofs.Ytfhlokjpdkmdjaa.tar (Du du0 Came TwoPost)
open Go.RowKit

def KdRec : Prop := ∀ (W : World) (a : Option Addr) (len cap : Nat) (ls : List Du) (t bp : Int), Came W a len cap ls → (Lit.int .i64 t).wf = true → (Lit.int .i64 bp).wf = true → Calls Try.prog 97 #[.slice a len cap, .int .i64 t, .int .i64 bp] W fun e w' => RecPost W ls t bp e w'

end Go.Proofs.Ytfhlokjpdkmdjaa.deb

/- debt.Recover. -/
namespace Go.Proofs.Ytfhlokjpdkmdjaa.deb
open Go.Proofs.Ytfhlokjpdkmdjaa.tar (Du du0 Came RowD Ld ErrPost TwoPost PairT GaveD)
open Go.RowKit
set_option maxRecDepth 100000
set_option linter.unusedVariables false
set_option linter.unusedSimpArgs false

set_option maxHeartbeats 4000000 in
theorem krec : KdRec := by
  intro w a len cap ls t bp hcame ht0 hb0
  have hr := hcame.row
  have HSH : Hid (Calls Try.prog 103 #[.slice a len cap, .int .i64 t, .int .i64 bp] w fun e w' => SharePost ls t bp w e w') := pshare a len cap ls t bp w hr hcame.most
  have HROW0 : Hid (RowD w a len ls) := hr
  clear hcame hr ht0 hb0
  go_enter Try.func97, Try.ntmps97
  go_wp2_with fail
  refine HSH.out.mono ?_
  rintro e w1 ⟨s, f, rfl, hf, hb1⟩
  have HB1 : Hid (Below w.heap.size w w1) := hb1
  clear hb1 HSH
  rcases hf with ⟨hm, hf, rfl⟩ | ⟨hm, ⟨ht, hse, hg⟩ | ⟨ht, rfl, rfl⟩⟩
  · have hne : (f != 0) = true := by simpa using fun h => hm (hf.ok.1 h)
    have HN : Hid (¬ Mays ls) := hm
    have HF : Hid (FaultIs ls f) := hf
    clear hf hm
    go_wp2_with fail
    go_ret3
    exact ⟨none, 0, 0, [], 0, f, rfl, .inl ⟨HN.out, HF.out, rfl, rfl⟩, fresh_nil _ _, HB1.out⟩
  · subst hg
    have HT : Hid (TMay t bp) := ht
    have hsb := share_bd ht
    rw [← hse] at hsb
    have HSE : Hid (s = t * bp / 10000) := hse
    have HM : Hid (Mays ls) := hm
    have HROW : Hid (RowD w1 a len ls) := HROW0.out.below HB1.out
    have HLEN : Hid (ls.length = len) := HROW.out.1
    have hl8 : len ≤ 8 := by have := hm.1; have := HLEN.out; omega
    clear ht hse hm HROW0
    go_wp2_with fail
    go_loopw [11, 12, 29] (fun u v x wr => ∃ (k : Nat) (V : Value), k ≤ len ∧ x = .int .i64 (k : Int) ∧ v = .int .i64 (max 0 (s - sumK ls k)) ∧ V = u ∧ Ld 25 wr w1.heap.size V (recK ls s k) ∧ Below w1.heap.size w1 wr) (fun _ _ x _ => len - (intOf x).toNat)
    case atStart => exact ⟨0, _, Nat.zero_le _, rfl, by show _ = Value.int .i64 (max 0 (s - 0)); rw [show max 0 (s - 0) = s by omega], rfl, tar.Ld.zero _ _ _, Below.refl _ _⟩
    case round =>
      obtain ⟨k, V, hk, rfl, rfl, hV, hu, hb⟩ := hrel
      subst hV
      have HBW : Hid (Below w1.heap.size w1 wr) := hb
      have HU : Hid (Ld 25 wr w1.heap.size V (recK ls s k)) := hu
      have hsk := sumK_bd HM.out k (by rw [HLEN.out]; exact hk)
      by_cases hlt : k < len
      · have hdl : decide ((k : Int) < (len : Int)) = true := by simp; omega
        obtain ⟨b, off, rfl, hbl, hc⟩ := HROW.out.at (by omega)
        have c0 : wr.cell? ⟨b, off + k * 2, none⟩ = some (.int .i64 (ls.getD k du0).a) := (hb.cell (p := ⟨b, off + k * 2, none⟩) hbl).trans (hc k hlt).1
        have c1 : wr.cell? ⟨b, off + k * 2 + 1, none⟩ = some (.int .i64 (ls.getD k du0).b) := (hb.cell (p := ⟨b, off + k * 2 + 1, none⟩) hbl).trans (hc k hlt).2
        have ho := HM.out.2 k (by rw [HLEN.out]; exact hlt)
        have ho1 := ho.1.1
        have ho2 := ho.1.2
        have HN : Hid (sumK ls k + (ls.getD k du0).a = sumK ls (k + 1)) := (sumK_next ls k).symm
        have HY : Hid (0 < left (ls.getD k du0).a (sumK ls k + (ls.getD k du0).a) s → recK ls s (k + 1) = recK ls s k ++ [⟨left (ls.getD k du0).a (sumK ls k + (ls.getD k du0).a) s, (ls.getD k du0).b⟩]) := recK_yes ls s k
        have HZ : Hid (¬ 0 < left (ls.getD k du0).a (sumK ls k + (ls.getD k du0).a) s → recK ls s (k + 1) = recK ls s k) := recK_no ls s k
        have hzl : (recK ls s k).length ≤ 1000000 := by have := recK_len ls s k; omega
        clear hc hb hu ho
        generalize recK ls s k = Z at *
        generalize hq1 : sumK ls k = q at *
        generalize (ls.getD k du0).a = x at *
        generalize (ls.getD k du0).b = y at *
        have HBX : Hid (Blk (wr.alloc (.cells #[.int .i64 x, .int .i64 y] 25)) wr.heap.size #[.int .i64 x, .int .i64 y] 25) := Blk.new wr _ _
        generalize hR : max 0 (s - q) = R at *
        have hR0 : 0 ≤ R := by omega
        have hR1 : R ≤ 100000000 := by omega
        have hmin := tar.run_min R x _ rfl
        generalize hp : min R x = p at *
        have hp0 : 0 ≤ p := by omega
        have hp1 : p ≤ x := by omega
        have hp2 : p ≤ R := by omega
        by_cases hpos : 0 < x - p
        ·
          have HRN : Hid (R - p = max 0 (s - sumK ls (k + 1))) := by show _ = _; rw [← HN.out]; omega
          have hd2 : decide (0 < x - p) = true := decide_eq_true hpos
          have hle : left x (q + x) s = x - p := by unfold left; omega
          rw [hle] at HY
          have HZ2 : Hid (recK ls s (k + 1) = Z ++ [⟨x - p, y⟩]) := HY.out hpos
          clear HY HZ hle
          clear hq1 hR hp hsk HN
          go_wp2_with (first
            | (refine wp_let1 rfl 3 _ _ rfl (wr.heap.size) 0 rfl .i64 (x - p) rfl (by kernel_rfl) #[.int .i64 x, .int .i64 y] 25 HBX.out (by simp) ?_)
            | fail)
          intro W1 hU1
          have HX1 : Hid (Blk W1 wr.heap.size #[.int .i64 (x - p), .int .i64 y] 25) := hU1.blk
          have hbw : Below wr.heap.size wr W1 := hU1.bel _ _ (Nat.le_refl _) ((Below.refl _ _).alloc (Nat.le_refl _) _)
          have HBW1 := shB HBW hbw
          have HU1 : Hid (Ld 25 W1 w1.heap.size V Z) := HU.out.next hbw
          have d0 : W1.cell? ⟨wr.heap.size, 0, none⟩ = some (.int .i64 (x - p)) := HX1.out.cell 0
          have d1 : W1.cell? ⟨wr.heap.size, 1, none⟩ = some (.int .i64 y) := HX1.out.cell 1
          clear hU1 hbw HBX HBW HU c0 c1
          have HBA : Hid (Below w1.heap.size w1 (W1.alloc (.cells #[.int .i64 (x - p), .int .i64 y] 25))) := HBW1.out.alloc HBW1.out.size _
          have HZA : Hid (Ld 25 (W1.alloc (.cells #[.int .i64 (x - p), .int .i64 y] 25)) w1.heap.size V Z) := HU1.out.alloc _
          have HCA : Hid ((W1.alloc (.cells #[.int .i64 (x - p), .int .i64 y] 25)).cell? ⟨W1.heap.size, 0, none⟩ = some (.int .i64 (x - p)) ∧ (W1.alloc (.cells #[.int .i64 (x - p), .int .i64 y] 25)).cell? ⟨W1.heap.size, 1, none⟩ = some (.int .i64 y)) := ⟨(Blk.new W1 _ _).cell 0, (Blk.new W1 _ _).cell 1⟩
          go_wp2_with (first
            | (at_builtin; refine tar.wp_pair debtT rfl _ _ rfl w1.heap.size (W1.heap.size) V Z ⟨x - p, y⟩ rfl rfl HZA.out HCA.out hzl HBA.out.size ?_)
            | fail)
          intro v3 w3 h3 hg3
          have HB3 : Hid (Below w1.heap.size w1 w3) := tar.own_bel HZA.out hg3 HBA.out (Nat.le_refl _) HBA.out.size
          have H3 : Hid (Ld 25 w3 w1.heap.size v3 (Z ++ [⟨x - p, y⟩])) := h3
          clear h3 hg3 HZA HCA HBA HU1 d0 d1
          go_wp2_with fail
          go_roundw
          case rel => exact ⟨k + 1, v3, by omega, by go_num, by rw [← HRN.out], by first | rfl | trivial, by rw [HZ2.out]; exact H3.out, HB3.out⟩
          case measure => simp [intOf]; omega
        ·
          have HRN : Hid (R - p = max 0 (s - sumK ls (k + 1))) := by show _ = _; rw [← HN.out]; omega
          have hd2 : decide (0 < x - p) = false := decide_eq_false hpos
          have hle : ¬ 0 < left x (q + x) s := by unfold left; omega
          have HZ2 : Hid (recK ls s (k + 1) = Z) := HZ.out hle
          clear HY HZ hle
          clear hq1 hR hp hsk HN
          go_wp2_with (first
            | (refine wp_let1 rfl 3 _ _ rfl (wr.heap.size) 0 rfl .i64 (x - p) rfl (by kernel_rfl) #[.int .i64 x, .int .i64 y] 25 HBX.out (by simp) ?_)
            | fail)
          intro W1 hU1
          have HX1 : Hid (Blk W1 wr.heap.size #[.int .i64 (x - p), .int .i64 y] 25) := hU1.blk
          have hbw : Below wr.heap.size wr W1 := hU1.bel _ _ (Nat.le_refl _) ((Below.refl _ _).alloc (Nat.le_refl _) _)
          have HBW1 := shB HBW hbw
          have HU1 : Hid (Ld 25 W1 w1.heap.size V Z) := HU.out.next hbw
          have d0 : W1.cell? ⟨wr.heap.size, 0, none⟩ = some (.int .i64 (x - p)) := HX1.out.cell 0
          have d1 : W1.cell? ⟨wr.heap.size, 1, none⟩ = some (.int .i64 y) := HX1.out.cell 1
          clear hU1 hbw HBX HBW HU c0 c1
          go_wp2_with fail
          go_roundw
          case rel => exact ⟨k + 1, V, by omega, by go_num, by rw [← HRN.out], by first | rfl | trivial, by rw [HZ2.out]; exact HU1.out, HBW1.out⟩
          case measure => simp [intOf]; omega
      · obtain rfl : k = len := by omega
        have hdl : decide ((k : Int) < (k : Int)) = false := by simp
        have HV : Hid (sumK ls k = sumD ls) := by have := sumK_all ls; rw [HLEN.out] at this; exact this
        have HRE : Hid (recK ls s k = recK ls (t * bp / 10000) ls.length) := by show _ = _; rw [HLEN.out, HSE.out]
        have hmz : Mays (recK ls s k) := ⟨Nat.le_trans (recK_len ls s k) hl8, fits_mem fun d hd => (recK_ok HM.out s k (by rw [HLEN.out]; exact Nat.le_refl _) d hd).1⟩
        obtain ⟨a3, cap3, hv3, hcm⟩ := ld_fresh hu hmz
        subst hv3
        have HCM : Hid (Fresh wr w.heap.size a3 (recK ls s k).length cap3 (recK ls s k)) := hcm.low HB1.out.size
        have HB9 : Hid (Below w.heap.size w wr) := HB1.out.trans (HBW.out.mono HB1.out.size)
        have HP : Hid (s - max 0 (s - sumK ls k) = min (t * bp / 10000) (sumD ls)) := by show _ = _; rw [← HSE.out, ← HV.out]; omega
        clear hb hu hmz hcm HU
        generalize (recK ls s k).length = len3 at *
        generalize recK ls s k = Z at *
        generalize hq : max 0 (s - sumK ls k) = q at *
        have hq0 : 0 ≤ q := by omega
        have hq1 : q ≤ s := by omega
        clear hq hsk
        go_wp2_with fail
        go_ret3
        exact ⟨a3, len3, cap3, Z, s - q, 0, rfl, .inr (.inr ⟨HM.out, HT.out, rfl, HRE.out, HP.out⟩), HCM.out, HB9.out⟩
  · have HM : Hid (Mays ls) := hm
    have HT : Hid (¬ TMay t bp) := ht
    clear ht hm
    go_wp2_with fail
    go_ret3
    exact ⟨none, 0, 0, [], 0, 2, rfl, .inr (.inl ⟨HM.out, HT.out, rfl, rfl, rfl⟩), fresh_nil _ _, HB1.out⟩

end Go.Proofs.Ytfhlokjpdkmdjaa.deb

/- tariff.Most: what is asked of it. -/
namespace Go.Proofs.Ytfhlokjpdkmdjaa.tar
open Go.RowKit

def KtMost : Prop := ∀ (W : World) (a : Option Addr) (len cap : Nat) (ls : List Du) (x n : Int), Came W a len cap ls → (Lit.int .i64 x).wf = true → (Lit.int .i64 n).wf = true → Calls Try.prog 99 #[.slice a len cap, .int .i64 x, .int .i64 n] W fun e w' => ThreePost W (MostIs ls x n) e w'

end Go.Proofs.Ytfhlokjpdkmdjaa.tar

/- A quiet region that draws its order, in a round of a loop over a function. -/
namespace Go.Proofs.Ytfhlokjpdkmdjaa
open Go.RowKit

theorem operIn_round {F : Fence} {n : Nat} {P : Program} (hro : F.round = none) (l : Nat) {o : Oper} (hd : ∀ c, o.op ≠ .defer c) {a : Act} {w : World} {K K' : Act → World → Prop} {Q : Exit → Act → World → Prop} (hK : ∀ a w, K a w → K' a w) (h : o.wpIn F n P a w K Q) : o.wpIn (F.inRound l) n P a w K' Q := by
  have h2 := Oper.wpIn_mono hK h
  unfold Oper.wpIn at *
  refine ⟨h2.1, ?_⟩
  have h3 := h2.2
  rw [hro, Oper.semAt_none] at h3
  rw [Fence.inRound_round, Oper.semAt_some l _ _ hd]
  generalize (execOp a.eval o).run P w = r at *
  cases r with
  | ok x w' => cases x <;> exact h3
  | halt x w' => cases x <;> exact h3
theorem opsIn_round {F : Fence} {n : Nat} {P : Program} {ops : Array Oper} {Q : Exit → Act → World → Prop} (hro : F.round = none) (l : Nat) (hd : ∀ (i : Nat) (o : Oper), ops[i]? = some o → ∀ c, o.op ≠ .defer c) : ∀ (s : List Nat) (a : Act) (w : World), wpOpsIn F n P ops Q s a w → wpOpsIn (F.inRound l) n P ops Q s a w
  | [], _, _, h => h
  | i :: s, a, w, h => by
    unfold wpOpsIn at h ⊢
    cases hi : ops[i]? with
    | none => rw [hi] at h; exact opsIn_round hro l hd s a w h
    | some o =>
      rw [hi] at h
      dsimp only at h ⊢
      by_cases hw : Region.wanted o (yielded ops a.tmps) = true
      · rw [if_pos hw] at h ⊢
        exact operIn_round hro l (hd i o hi) (fun a w h => opsIn_round hro l hd s a w h) h
      · rw [if_neg hw] at h ⊢
        exact ⟨h.1, opsIn_round hro l hd s _ w h.2⟩
def noDefer (l : List Oper) : Bool := l.all fun o => match o.op with | .defer _ => false | _ => true
theorem noDefer_spec {l : List Oper} (h : noDefer l = true) (i : Nat) (o : Oper) (ho : l.toArray[i]? = some o) (c : Call) : o.op ≠ .defer c := by
  intro e
  have h1 : o ∈ l := by
    have : l[i]? = some o := by simpa using ho
    exact List.mem_of_getElem? this
  have h2 := List.all_eq_true.1 h o h1
  rw [e] at h2
  exact Bool.noConfusion h2
theorem round_quiet {F : Fence} {n : Nat} {P : Program} {id : Nat} {Q : Exit → Act → World → Prop} {a : Act} {w : World} {l : List Oper} {r : Nat} (hro : F.round = none) (hm : P.follows .mixedOrders = true) (hB : Region.lexB .any l.toArray = true) (hd : noDefer l = true)
    (h : wpQuietIn F n P l.toArray (fun w' => ∃ n, w' = w.drewN n) (fun a' => ∀ w', (∃ n, w' = w.drewN n) → Q .normal a' w') l a) : (Code.region id l.toArray true).wpIn (F.inRound r) n P Q a w := by
  simp only [Region.lexB, Bool.and_eq_true] at hB
  refine wpIn_region_draw fun t => opsIn_round hro r (noDefer_spec hd) _ _ _ ?_
  simp only [Region.schedule, hm, Bool.true_or, if_true]
  refine wpAnyIn_sound _ t _ a _ ?_
  refine wpAnyIn_of_quiet (C := fun w' => ∃ n, w' = w.drewN n) (Q := fun a' => ∀ w', (∃ n, w' = w.drewN n) → Q .normal a' w') hro (fun _ w' hw' h => h w' hw') _ _ _ _ ⟨1, rfl⟩ ?_
  have := wpAnyQIn_lex (F := F) (n := n) (C := fun w' => ∃ n, w' = w.drewN n) (md := .any) hB.1 l 0 (Array.replicate l.toArray.size false) a (by simp) (by simpa using hB.2) h
  simpa using this

end Go.Proofs.Ytfhlokjpdkmdjaa

/- Lines that come one by one: plain facts. -/
namespace Go.Proofs.Ytfhlokjpdkmdjaa.tar
open Go.RowKit
set_option linter.unusedVariables false

/-- A line as it is handed over. -/
abbrev Ln := { t : Tr // LineOk t }
def encL (t : Ln) : Array Value := #[.agg #[.int .i64 t.1.a, .int .i64 t.1.b, .int .i64 t.1.c]]
def lns (l : List Ln) : List Tr := l.map (fun t => t.1)
theorem lns_app (l m : List Ln) : lns (l ++ m) = lns l ++ lns m := by unfold lns; rw [List.map_append]
theorem lns_len (l : List Ln) : (lns l).length = l.length := by unfold lns; rw [List.length_map]
theorem lns_ok (l : List Ln) : ∀ t ∈ lns l, LineOk t := fun t ht => by
  unfold lns at ht
  obtain ⟨s, _, rfl⟩ := List.mem_map.1 ht
  exact s.2
/-- Whatever a round may turn: nothing below n, and none of the blocks from lo to hi. -/
def Kq (n lo hi : Nat) (W W' : World) : Prop := Below n W W' ∧ ∀ j, lo ≤ j → j < hi → W'.heap[j]? = W.heap[j]?
theorem Kq.trans {n lo hi : Nat} {A B C : World} (h : Kq n lo hi A B) (k : Kq n lo hi B C) : Kq n lo hi A C := ⟨h.1.trans k.1, fun j a b => (k.2 j a b).trans (h.2 j a b)⟩
/-- The units that come next. -/
theorem nxt_yes {l : List Du} (h : Right l) (x y : Int) (hx : 0 ≤ x) (hxy : x ≤ y) (k : Nat) (hk : k < l.length) (hp : 0 < min (l.getD k du0).a y - (x + manyK l x y k)) : min (l.getD k du0).a y - (x + manyK l x y k) = ov (low l k) (l.getD k du0).a x y := by
  have h1 := many_eq h x y hx hxy k (by omega)
  have h2 := h.rise k hk
  have h3 := h.low_pos k (by omega)
  rw [h1] at hp ⊢
  unfold ov
  omega
theorem nxt_no {l : List Du} (h : Right l) (x y : Int) (hx : 0 ≤ x) (hxy : x ≤ y) (k : Nat) (hk : k < l.length) (hp : ¬ 0 < min (l.getD k du0).a y - (x + manyK l x y k)) : ov (low l k) (l.getD k du0).a x y = 0 := by
  have h1 := many_eq h x y hx hxy k (by omega)
  have h2 := h.rise k hk
  have h3 := h.low_pos k (by omega)
  rw [h1] at hp
  unfold ov
  omega
theorem many_next (l : List Du) (x y : Int) (k : Nat) : manyK l x y (k + 1) = manyK l x y k + ov (low l k) (l.getD k du0).a x y := rfl
theorem many_bd {l : List Du} (h : Right l) (x y : Int) (hx : 0 ≤ x) (hxy : x ≤ y) (k : Nat) (hk : k ≤ l.length) : 0 ≤ manyK l x y k ∧ manyK l x y k ≤ y - x := by
  rw [many_eq h x y hx hxy k hk]; omega
theorem line_ok {l : List Du} (h : Right l) (x y : Int) (k : Nat) (hk : k < l.length) (hp : 0 < ov (low l k) (l.getD k du0).a x y) : LineOk ⟨ov (low l k) (l.getD k du0).a x y, (l.getD k du0).b, ov (low l k) (l.getD k du0).a x y * (l.getD k du0).b⟩ := by
  have h1 := h.price k hk
  have h2 := h.upto k hk
  have h3 := h.low_pos k (by omega)
  exact ⟨by show 1 ≤ ov _ _ _ _; omega, ov_le _ _ _ _ h3 h2.2, h1.1, h1.2, rfl⟩
theorem bill_prefix (l : List Du) (x y : Int) (k m : Nat) (hkm : k ≤ m) : billK l x y k <+: billK l x y m := by
  induction m with
  | zero => have : k = 0 := by omega
            subst this; exact List.prefix_refl _
  | succ m ih =>
    by_cases e : k = m + 1
    · subst e; exact List.prefix_refl _
    · exact (ih (by omega)).trans (List.prefix_append (billK l x y m) (if 0 < ov (low l m) (l.getD m du0).a x y then [⟨ov (low l m) (l.getD m du0).a x y, (l.getD m du0).b, ov (low l m) (l.getD m du0).a x y * (l.getD m du0).b⟩] else []))

end Go.Proofs.Ytfhlokjpdkmdjaa.tar

/- The lines, one by one, in the program. -/
namespace Go.Proofs.Ytfhlokjpdkmdjaa.tar
open Go.RowKit Go.Shelf
set_option maxRecDepth 100000
set_option linter.unusedVariables false
set_option linter.unusedSimpArgs false
attribute [local go_sem] Oper.semAt_some

theorem boxed_same {W W' : World} {B : Nat} {t : TypeId} {v : Value} (h : Boxed W B t v) (e : W'.heap[B]? = W.heap[B]?) : Boxed W' B t v := e.trans h

set_option maxHeartbeats 2000000 in
theorem lines1_in (F : Fence) (n : Nat) (hF : F.fn 107) (hro : F.round = none) (hn : 1 ≤ n) (l Bf Bt Bu n₀ lo hi b off len cap B0 : Nat) (ls : List Du) (x u : Int) (J Jx : List Ln → World → Prop)
    (hR : Right ls) (hlen : ls.length = len) (hx : 0 ≤ x ∧ x ≤ 10000000) (hu : 0 ≤ u ∧ x + u ≤ 10000000) (hJ : AbidesFrom B0 J)
    (hY : ∀ pre t W, J pre W → pre.length < len → YieldAt F (n - 1) Try.prog l (encL t) W fun e W' =>
      (e = .returned (.bool true) ∧ J (pre ++ [t]) W' ∧ Kq n₀ lo hi W W') ∨ (e = .returned (.bool false) ∧ Jx (pre ++ [t]) W'))
    (W : World) (hf : Boxed W Bf 3 (.int .i64 x)) (ht : Boxed W Bt 38 (.slice (some ⟨b, off, none⟩) len cap)) (hun : Boxed W Bu 3 (.int .i64 u)) (h1 : lo ≤ Bf ∧ Bf < hi) (h2 : lo ≤ Bu ∧ Bu < hi) (hb : b < n₀) (hnW : n₀ ≤ W.heap.size)
    (hc : ∀ i, i < len → W.cell? ⟨b, off + i * 2, none⟩ = some (.int .i64 (ls.getD i du0).a) ∧ W.cell? ⟨b, off + i * 2 + 1, none⟩ = some (.int .i64 (ls.getD i du0).b)) (h0 : J [] W) :
    CallsIn F n Try.prog 107 #[.func (.yield l) #[] #[], .pointer (some ⟨Bf, 0, none⟩), .pointer (some ⟨Bt, 0, none⟩), .pointer (some ⟨Bu, 0, none⟩)] W fun e W' => (∃ v, e = .returned v) ∧
      ((∃ ys, lns ys = billK ls x (x + u) len ∧ J ys W') ∨ (∃ pre, lns pre <+: billK ls x (x + u) len ∧ Jx pre W')) := by
  have HR : Hid (Right ls) := hR
  have HY : Hid (∀ pre t W, J pre W → pre.length < len → YieldAt F (n - 1) Try.prog l (encL t) W fun e W' =>
      (e = .returned (.bool true) ∧ J (pre ++ [t]) W' ∧ Kq n₀ lo hi W W') ∨ (e = .returned (.bool false) ∧ Jx (pre ++ [t]) W')) := hY
  have HJ : Hid (AbidesFrom B0 J) := hJ
  have HC : Hid (∀ i, i < len → W.cell? ⟨b, off + i * 2, none⟩ = some (.int .i64 (ls.getD i du0).a) ∧ W.cell? ⟨b, off + i * 2 + 1, none⟩ = some (.int .i64 (ls.getD i du0).b)) := hc
  have HLEN : Hid (ls.length = len) := hlen
  have hl8 : len ≤ 8 := by have := hR.1.2; omega
  have ct := ht.cell
  have cf := hf.cell
  obtain ⟨hx0, hx1⟩ := hx
  obtain ⟨hu0, hu1⟩ := hu
  have HX : Hid (0 ≤ x ∧ x ≤ x + u ∧ x + u ≤ 10000000) := ⟨hx0, by omega, hu1⟩
  clear hR hY hJ hc hlen
  refine callsIn_of_wp Try.func107 rfl hF ?_ hro
  simp only [Try.ntmps107, List.size_toArray, List.length_cons, List.length_nil, Nat.reduceAdd, Nat.reduceSub, Array.replicate_succ, Array.replicate_zero, List.push_toArray, List.append_toArray, List.nil_append, List.cons_append]
  gi_wp2
  gi_loopw [5, 12] (fun r i wr => ∃ (k : Nat) (pre : List Ln), k ≤ len ∧ i = .int .i64 (k : Int) ∧ r = .int .i64 (x + manyK ls x (x + u) k) ∧ lns pre = billK ls x (x + u) k ∧ J pre wr ∧ Boxed wr Bf 3 (.int .i64 x) ∧ Boxed wr Bu 3 (.int .i64 u) ∧ Below n₀ W wr) (fun _ i _ => len - (intOf i).toNat)
  case atStart => exact ⟨0, [], Nat.zero_le _, rfl, by show _ = Value.int .i64 (x + 0); rw [Int.add_zero], rfl, h0, hf, hun, Below.refl _ _⟩
  case round =>
    obtain ⟨k, pre, hk, rfl, rfl, hpre, hj, hbf, hbu, hbl⟩ := hrel
    have HPRE : Hid (lns pre = billK ls x (x + u) k) := hpre
    have HJP : Hid (J pre wr) := hj
    have HBF : Hid (Boxed wr Bf 3 (.int .i64 x)) := hbf
    have HBU : Hid (Boxed wr Bu 3 (.int .i64 u)) := hbu
    have HBL : Hid (Below n₀ W wr) := hbl
    clear hpre hj hf hun ht ct cf
    by_cases hlt : k < len
    · have hdl : decide ((k : Int) < (len : Int)) = true := by simp; omega
      have c0 : wr.cell? ⟨b, off + k * 2, none⟩ = some (.int .i64 (ls.getD k du0).a) := (hbl.cell (p := ⟨b, off + k * 2, none⟩) hb).trans (HC.out k hlt).1
      have c1 : wr.cell? ⟨b, off + k * 2 + 1, none⟩ = some (.int .i64 (ls.getD k du0).b) := (hbl.cell (p := ⟨b, off + k * 2 + 1, none⟩) hb).trans (HC.out k hlt).2
      have hkl : k < ls.length := by rw [HLEN.out]; exact hlt
      have hpr := HR.out.price k hkl
      have hup := HR.out.upto k hkl
      have hmb := many_bd HR.out x (x + u) hx0 (by omega) k (by omega)
      have hmin := run_min (ls.getD k du0).a (x + u) _ rfl
      have hpl : pre.length < len := by
        have e1 := lns_len pre
        have e2 := bill_len ls x (x + u) k
        rw [HPRE.out] at e1
        omega
      have HBA : Hid (∀ o, Below n₀ W (wr.alloc o)) := fun o => hbl.alloc (Nat.le_trans hnW hbl.size) o
      have cf : ∀ o, (wr.alloc o).cell? ⟨Bf, 0, none⟩ = some (.int .i64 x) := fun o => (hbf.alloc o).cell
      have cu : ∀ o, (wr.alloc o).cell? ⟨Bu, 0, none⟩ = some (.int .i64 u) := fun o => (hbu.alloc o).cell
      have HFA : Hid (∀ o, Boxed (wr.alloc o) Bf 3 (.int .i64 x)) := fun o => hbf.alloc o
      have HUA : Hid (∀ o, Boxed (wr.alloc o) Bu 3 (.int .i64 u)) := fun o => hbu.alloc o
      have HJA : Hid (∀ o, J pre (wr.alloc o)) := fun o => HJ.out pre wr _ none HJP.out (World.grownBy_alloc wr o none) (fun r e => by cases e)
      clear hbf hbu hbl
      by_cases hp : 0 < min (ls.getD k du0).a (x + u) - (x + manyK ls x (x + u) k)
      · have ho := nxt_yes HR.out x (x + u) hx0 (by omega) k hkl hp
        have hp2 := hp
        rw [ho] at hp2
        have hok := line_ok HR.out x (x + u) k hkl hp2
        have HN : Hid (billK ls x (x + u) (k + 1) = billK ls x (x + u) k ++ [⟨ov (low ls k) (ls.getD k du0).a x (x + u), (ls.getD k du0).b, ov (low ls k) (ls.getD k du0).a x (x + u) * (ls.getD k du0).b⟩]) := billK_yes ls x (x + u) k hp2
        have HM : Hid (manyK ls x (x + u) (k + 1) = manyK ls x (x + u) k + ov (low ls k) (ls.getD k du0).a x (x + u)) := many_next ls x (x + u) k
        have hm2 := many_bd HR.out x (x + u) hx0 (by omega) (k + 1) (by omega)
        rw [HM.out] at hm2
        have hle := ov_le (low ls k) (ls.getD k du0).a x (x + u) (HR.out.low_pos k (by omega)) hup.2
        have hpb := prod_bd (Int.le_of_lt hp2) hle hpr.1 hpr.2
        generalize ov (low ls k) (ls.getD k du0).a x (x + u) = o at *
        generalize manyK ls x (x + u) k = mk at *
        generalize (ls.getD k du0).a = up at *
        generalize (ls.getD k du0).b = p at *
        generalize min up (x + u) = m at *
        have hm : m - (x + mk) = o := ho
        have hdo : decide (o ≤ 0) = false := by simp; omega
        have HQ : Hid (∀ C, YieldAt F (n - 1) Try.prog l (encL ⟨⟨o, p, o * p⟩, hok⟩) (wr.alloc C) fun e W' =>
          (e = .returned (.bool true) ∧ J (pre ++ [⟨⟨o, p, o * p⟩, hok⟩]) W' ∧ Kq n₀ lo hi (wr.alloc C) W') ∨ (e = .returned (.bool false) ∧ Jx (pre ++ [⟨⟨o, p, o * p⟩, hok⟩]) W')) := fun C => HY.out pre ⟨⟨o, p, o * p⟩, hok⟩ _ (HJA.out C) hpl
        obtain ⟨fn, tmps, assign, body, hy, hRd⟩ := HQ.out (.cells #[.int .i64 up, .int .i64 p] 111)
        have HNX : Hid (lns (pre ++ [⟨⟨o, p, o * p⟩, hok⟩]) = billK ls x (x + u) (k + 1)) := by
          show _ = _
          rw [lns_app, HPRE.out, HN.out]; rfl
        have hpb0 := hpb.1
        have hpb1 := hpb.2
        have hxm0 : 0 ≤ x + mk := by omega
        have hxm1 : x + mk ≤ 10000000 := by omega
        have hm0 : 0 ≤ m := by omega
        have hm1 : m ≤ 20000000 := by omega
        have hs1 : x + mk + o ≤ 10000000 := by omega
        have ho0 : 0 ≤ o := by omega
        simp only [encL] at hy
        clear ho hp HQ hmb hm2 hpb hpr hup
        gi_wp2
        refine hRd.mono ?_
        rintro e W3 (⟨rfl, hJ3, hk3⟩ | ⟨rfl, hJx3⟩)
        · have HB3 : Hid (Below n₀ W W3) := (HBA.out _).trans hk3.1
          have HF3 : Hid (Boxed W3 Bf 3 (.int .i64 x)) := boxed_same (HFA.out _) (hk3.2 Bf h1.1 h1.2)
          have HU3 : Hid (Boxed W3 Bu 3 (.int .i64 u)) := boxed_same (HUA.out _) (hk3.2 Bu h2.1 h2.2)
          have HJ3 : Hid (J (pre ++ [⟨⟨o, p, o * p⟩, hok⟩]) W3) := hJ3
          clear hk3 hJ3
          gi_wp2
          go_roundw
          case rel => exact ⟨k + 1, pre ++ [⟨⟨o, p, o * p⟩, hok⟩], by omega, by go_num, by rw [HM.out, Int.add_assoc], HNX.out, HJ3.out, HF3.out, HU3.out, HB3.out⟩
          case measure => simp [intOf]; omega
        · have HJX : Hid (Jx (pre ++ [⟨⟨o, p, o * p⟩, hok⟩]) W3) := hJx3
          clear hJx3
          gi_wp2
          refine bodyPost_ret (results_none rfl _ _ _) rfl ?_
          exact ⟨⟨_, rfl⟩, .inr ⟨pre ++ [⟨⟨o, p, o * p⟩, hok⟩], by rw [HNX.out]; exact bill_prefix ls x (x + u) (k + 1) len (by omega), HJX.out⟩⟩
      · have ho := nxt_no HR.out x (x + u) hx0 (by omega) k hkl hp
        have hmz : 0 ≤ min (ls.getD k du0).a (x + u) := by omega
        have HN : Hid (billK ls x (x + u) (k + 1) = billK ls x (x + u) k) := billK_no ls x (x + u) k (by omega)
        have HM : Hid (manyK ls x (x + u) (k + 1) = manyK ls x (x + u) k) := by show _ = _; rw [many_next, ho, Int.add_zero]
        generalize manyK ls x (x + u) k = mk at *
        generalize (ls.getD k du0).a = up at *
        generalize (ls.getD k du0).b = p at *
        generalize min up (x + u) = m at *
        have hxm0 : 0 ≤ x + mk := by omega
        have hxm1 : x + mk ≤ 10000000 := by omega
        have hdo : decide (m - (x + mk) ≤ 0) = true := by simp; omega
        have hm0 : 0 ≤ m := hmz
        have hm1 : m ≤ 20000000 := by omega
        clear ho hp hmb hpr hup
        gi_wp2
        go_roundw
        case rel => exact ⟨k + 1, pre, by omega, by go_num, by rw [HM.out], by rw [HN.out]; exact HPRE.out, HJA.out _, HFA.out _, HUA.out _, HBA.out _⟩
        case measure => simp [intOf]; omega
    · obtain rfl : k = len := by omega
      have hdl : decide ((k : Int) < (k : Int)) = false := by simp
      clear hbf hbu hbl
      gi_wp2
      go_end0
      exact ⟨⟨_, rfl⟩, .inl ⟨pre, HPRE.out, HJP.out⟩⟩

end Go.Proofs.Ytfhlokjpdkmdjaa.tar

/- The lines as a function that yields, in the program. -/
namespace Go.Proofs.Ytfhlokjpdkmdjaa.tar
open Go.RowKit Go.Shelf
set_option maxRecDepth 100000
set_option linter.unusedVariables false
set_option linter.unusedSimpArgs false
attribute [local go_sem] Oper.semAt_some

theorem blk_own {β : Type} (B : Nat) (t : TypeId) (f : β → Array Value) : Own (fun s W => Blk W B (f s) t) := fun s X Y row hs hg hrow => by
  have hl := hs.lt
  refine (hg.block B hl fun e' => ?_).trans hs
  obtain ⟨o, ho, hc⟩ := hrow B e'.symm
  rw [show X.heap[B]? = _ from hs] at ho; cases ho; cases hc
def boxes (w : World) (v : Value) (x u : Int) : World := ((w.alloc (.cells #[v] 38)).alloc (.cells #[.int .i64 x] 3)).alloc (.cells #[.int .i64 u] 3)
theorem boxes_size (w : World) (v : Value) (x u : Int) : (boxes w v x u).heap.size = w.heap.size + 3 := by unfold boxes; simp
theorem boxes_t (w : World) (v : Value) (x u : Int) : Boxed (boxes w v x u) w.heap.size 38 v := ((Boxed.new w _ v).alloc _).alloc _
theorem boxes_x (w : World) (v : Value) (x u : Int) : Boxed (boxes w v x u) (w.heap.size + 1) 3 (.int .i64 x) := by
  have h := (Boxed.new (w.alloc (.cells #[v] 38)) 3 (.int .i64 x)).alloc (.cells #[.int .i64 u] 3)
  rw [World.size_alloc] at h
  exact h
theorem boxes_u (w : World) (v : Value) (x u : Int) : Boxed (boxes w v x u) (w.heap.size + 1 + 1) 3 (.int .i64 u) := by
  have h := Boxed.new ((w.alloc (.cells #[v] 38)).alloc (.cells #[.int .i64 x] 3)) 3 (.int .i64 u)
  rw [World.size_alloc, World.size_alloc] at h
  exact h
theorem boxes_bel {n : Nat} {w0 w : World} (h : Below n w0 w) (hn : n ≤ w.heap.size) (v : Value) (x u : Int) : Below n w0 (boxes w v x u) := ((h.alloc hn _).alloc (by simp; omega) _).alloc (by simp; omega) _
theorem boxes_boxed {w : World} {B : Nat} {t : TypeId} {o : Value} (h : Boxed w B t o) (v : Value) (x u : Int) : Boxed (boxes w v x u) B t o := ((h.alloc _).alloc _).alloc _

set_option maxHeartbeats 1000000 in
theorem lines_in (F : Fence) (n : Nat) (hF : F.fn 105) (hro : F.round = none) (a : Option Addr) (len cap : Nat) (x u : Int) (w : World) :
    CallsIn F n Try.prog 105 #[.slice a len cap, .int .i64 x, .int .i64 u] w fun e w' => e = .returned (.func (.func 107) #[] #[.pointer (some ⟨w.heap.size + 1, 0, none⟩), .pointer (some ⟨w.heap.size, 0, none⟩), .pointer (some ⟨w.heap.size + 1 + 1, 0, none⟩)]) ∧ w' = boxes w (.slice a len cap) x u := by
  refine callsIn_of_wp Try.func105 rfl hF ?_ hro
  simp only [Try.ntmps105, List.size_toArray, List.length_cons, List.length_nil, Nat.reduceAdd, Nat.reduceSub, Array.replicate_succ, Array.replicate_zero, List.push_toArray, List.append_toArray, List.nil_append, List.cons_append]
  gi_wp2
  go_ret
  exact ⟨rfl, rfl⟩
/-- What is to be known of a call of the lines, at the world w where the loop begins. -/
structure Lnd (w : World) (n₀ B b off len cap : Nat) (ls : List Du) (x u : Int) : Prop where
  right : Right ls
  many : ls.length = len
  x0 : 0 ≤ x
  x1 : x ≤ 10000000
  u0 : 0 ≤ u
  u1 : x + u ≤ 10000000
  bt : Boxed w B 38 (.slice (some ⟨b, off, none⟩) len cap)
  bx : Boxed w (B + 1) 3 (.int .i64 x)
  bu : Boxed w (B + 1 + 1) 3 (.int .i64 u)
  hb : b < n₀
  hn : n₀ ≤ w.heap.size
  row : ∀ i, i < len → w.cell? ⟨b, off + i * 2, none⟩ = some (.int .i64 (ls.getD i du0).a) ∧ w.cell? ⟨b, off + i * 2 + 1, none⟩ = some (.int .i64 (ls.getD i du0).b)
theorem lines_stops (F : Fence) (n : Nat) (hF : F.fn 107) (hro : F.round = none) (hn : 1 ≤ n) (n₀ B b off len cap : Nat) (ls : List Du) (x u : Int) (w : World) (h : Lnd w n₀ B b off len cap ls x u) :
    SeqStopsK F n Try.prog 107 #[.pointer (some ⟨B + 1, 0, none⟩), .pointer (some ⟨B, 0, none⟩), .pointer (some ⟨B + 1 + 1, 0, none⟩)] encL (Kq n₀ B (B + 3)) (fun ys => lns ys = billK ls x (x + u) len) (fun pre => lns pre <+: billK ls x (x + u) len) len w := fun l J Jx W hW hJ _ hY h0 =>
  lines1_in F n hF hro hn l (B + 1) B (B + 1 + 1) n₀ B (B + 3) b off len cap W.heap.size ls x u J Jx h.right h.many ⟨h.x0, h.x1⟩ ⟨h.u0, h.u1⟩ hJ hY W
    (boxed_same h.bx (hW.block _ h.bx.lt)) (boxed_same h.bt (hW.block _ h.bt.lt)) (boxed_same h.bu (hW.block _ h.bu.lt)) ⟨by omega, by omega⟩ ⟨by omega, by omega⟩ h.hb (Nat.le_trans h.hn hW.size)
    (fun i hi => ⟨(hW.cell (p := ⟨b, off + i * 2, none⟩) (Nat.lt_of_lt_of_le h.hb h.hn)).trans (h.row i hi).1, (hW.cell (p := ⟨b, off + i * 2 + 1, none⟩) (Nat.lt_of_lt_of_le h.hb h.hn)).trans (h.row i hi).2⟩) h0
/-- A round may turn blocks that lie neither below n nor among these. -/
theorem Kq.refl (n lo hi : Nat) (W : World) : Kq n lo hi W W := ⟨Below.refl _ _, fun _ _ _ => rfl⟩
theorem Kq.alloc {n lo hi : Nat} {W W' : World} (h : Kq n lo hi W W') (o : Obj) (hn : n ≤ W'.heap.size) (hs : hi ≤ W'.heap.size) : Kq n lo hi W (W'.alloc o) := ⟨h.1.alloc hn o, fun j a b => (Below.heap_alloc W' o j (by omega)).trans (h.2 j a b)⟩
theorem Kq.set {n lo hi : Nat} {W W' : World} (h : Kq n lo hi W W') (B i : Nat) (v : Value) (hB : n ≤ B) (hl : B < lo ∨ hi ≤ B) : Kq n lo hi W (W'.setCell ⟨B, i, none⟩ v) := ⟨h.1.setCell (p := ⟨B, i, none⟩) hB v, fun j a b => (Below.heap_setCell W' ⟨B, i, none⟩ v j (by show j ≠ B; omega)).trans (h.2 j a b)⟩
theorem kq_b {n lo hi : Nat} {w : World} (hn : n ≤ w.heap.size) (hh : hi ≤ w.heap.size) (W : World) (l : Nat) (o o' : Obj) (hl : w.heap.size ≤ l) (h : W.heap[l]? = some o) (hc : o.isCells = false) (hw : o.isWalk = false) : Kq n lo hi W (W.putObj l o') := ⟨belowK_b hn W l o o' hl h hc hw, fun j a b => (grownBy_putObj' W l o').block j (by have := (Array.getElem?_eq_some_iff.1 h).1; omega) (fun e => by cases e; omega)⟩
theorem lnd_of {w w1 : World} (n₀ B b off len cap : Nat) {ls : List Du} {x u : Int} (hr : Right ls) (hl : ls.length = len) (hx : 0 ≤ x ∧ x ≤ 10000000) (hu : 0 ≤ u ∧ x + u ≤ 10000000) (hB : w1.heap.size = B) (hb : b < n₀) (hn : n₀ ≤ w1.heap.size)
    (hbel : Below n₀ w w1) (hc : ∀ i, i < len → w.cell? ⟨b, off + i * 2, none⟩ = some (.int .i64 (ls.getD i du0).a) ∧ w.cell? ⟨b, off + i * 2 + 1, none⟩ = some (.int .i64 (ls.getD i du0).b)) : Lnd (boxes w1 (.slice (some ⟨b, off, none⟩) len cap) x u) n₀ B b off len cap ls x u := by
  subst hB
  have h2 := boxes_bel hbel hn (.slice (some ⟨b, off, none⟩) len cap) x u
  exact ⟨hr, hl, hx.1, hx.2, hu.1, hu.2, boxes_t _ _ _ _, boxes_x _ _ _ _, boxes_u _ _ _ _, hb, by rw [boxes_size]; omega, fun i hi => ⟨(h2.cell (p := ⟨b, off + i * 2, none⟩) hb).trans (hc i hi).1, (h2.cell (p := ⟨b, off + i * 2 + 1, none⟩) hb).trans (hc i hi).2⟩⟩

end Go.Proofs.Ytfhlokjpdkmdjaa.tar

/- The most units for an amount: plain facts. -/
namespace Go.Proofs.Ytfhlokjpdkmdjaa.tar
set_option linter.unusedVariables false

theorem ov_before {l : List Du} (h : Right l) (x y z : Int) (k j : Nat) (hk : k < l.length) (hj : j < k) (hy : low l k ≤ y) (hz : low l k ≤ z) : ov (low l j) (l.getD j du0).a x z = ov (low l j) (l.getD j du0).a x y := by
  have h1 := low_mono h (j + 1) k (by omega) (by omega)
  rw [low_next] at h1
  unfold ov
  omega
theorem costK_before {l : List Du} (h : Right l) (x y z : Int) (k j : Nat) (hk : k < l.length) (hj : j ≤ k) (hy : low l k ≤ y) (hz : low l k ≤ z) : costK l x z j = costK l x y j := by
  induction j with
  | zero => rfl
  | succ j ih => rw [costK_next, costK_next, ih (by omega), ov_before h x y z k j hk (by omega) hy hz]
theorem costK_behind {l : List Du} (h : Right l) (x z : Int) (k j : Nat) (hkj : k ≤ j) (hj : j ≤ l.length) (hz : z ≤ low l k) : costK l x z j = costK l x z k := by
  induction j with
  | zero => have : k = 0 := by omega
            subst this; rfl
  | succ j ih =>
    by_cases e : k = j + 1
    · subst e; rfl
    · have h1 := ih (by omega) (by omega)
      have h2 := low_mono h k j (by omega) (by omega)
      rw [costK_next, h1, show ov (low l j) (l.getD j du0).a x z = 0 by unfold ov; omega]
      omega
/-- What all units of the steps ahead of k cost, and q of the step k. -/
theorem cost_part {l : List Du} (h : Right l) (x y : Int) (hx : 0 ≤ x) (hxy : x ≤ y) (k : Nat) (hk : k < l.length) (q : Int) (hq : 0 ≤ q) (hq2 : q ≤ ov (low l k) (l.getD k du0).a x y) (hp : 0 < ov (low l k) (l.getD k du0).a x y) :
    cost l x (x + (manyK l x y k + q)) = costK l x y k + q * (l.getD k du0).b := by
  have h1 := many_eq h x y hx hxy k (by omega)
  have h2 := h.rise k hk
  have h3 := h.low_pos k (by omega)
  have hlo : low l k ≤ y := by unfold ov at hp; omega
  have hz : low l k ≤ x + (manyK l x y k + q) := by rw [h1]; omega
  have hz2 : x + (manyK l x y k + q) ≤ low l (k + 1) := by rw [h1, low_next]; unfold ov at hq2 hp; omega
  unfold cost
  rw [costK_behind h x _ (k + 1) l.length (by omega) (Nat.le_refl _) hz2, costK_next, costK_before h x y _ k k hk (Nat.le_refl _) hlo hz]
  rw [show ov (low l k) (l.getD k du0).a x (x + (manyK l x y k + q)) = q by rw [h1]; unfold ov at hq2 hp ⊢; omega]
/-- Where a line stands. -/
theorem bill_at (l : List Du) (x y : Int) (n : Nat) (p : List Tr) (t : Tr) (h : p ++ [t] <+: billK l x y n) : ∃ k, k < n ∧ p = billK l x y k ∧ 0 < ov (low l k) (l.getD k du0).a x y ∧ t = ⟨ov (low l k) (l.getD k du0).a x y, (l.getD k du0).b, ov (low l k) (l.getD k du0).a x y * (l.getD k du0).b⟩ := by
  induction n with
  | zero =>
    have := h.length_le
    simp [billK] at this
  | succ n ih =>
    by_cases hp : 0 < ov (low l n) (l.getD n du0).a x y
    · rw [billK_yes l x y n hp] at h
      rcases List.prefix_concat_iff.1 h with h | h
      · obtain ⟨h1, h2⟩ := List.append_inj' h rfl
        exact ⟨n, by omega, h1, hp, by simpa using h2⟩
      · obtain ⟨k, a, b⟩ := ih h
        exact ⟨k, by omega, b⟩
    · rw [billK_no l x y n hp] at h
      obtain ⟨k, a, b⟩ := ih h
      exact ⟨k, by omega, b⟩
theorem top_bd {x : Int} (hx : 0 ≤ x ∧ x ≤ 10000000) : 0 ≤ Top x ∧ x + Top x ≤ 10000000 := by unfold Top; omega
theorem most_all {l : List Du} (h : Right l) (x m : Int) (hx : 0 ≤ x ∧ x ≤ 10000000) (hm : sumC (billK l x (x + Top x) l.length) ≤ m) : MostOf l x m (sumA (billK l x (x + Top x) l.length)) ∧ sumC (billK l x (x + Top x) l.length) = cost l x (x + sumA (billK l x (x + Top x) l.length)) := by
  have ht := top_bd hx
  have h1 := bill_sums l x (x + Top x) l.length
  have h2 := many_all h x (x + Top x) hx.1 (by omega) ht.2
  have e : sumA (billK l x (x + Top x) l.length) = Top x := by rw [h1.1, h2]; omega
  have e2 : sumC (billK l x (x + Top x) l.length) = cost l x (x + Top x) := h1.2
  rw [e, e2]
  rw [e2] at hm
  exact ⟨⟨⟨ht.1, Int.le_refl _⟩, hm, .inl rfl⟩, rfl⟩
theorem most_cut {l : List Du} (h : Right l) (x m q : Int) (hx : 0 ≤ x ∧ x ≤ 10000000) (p : List Tr) (t : Tr) (hpre : p ++ [t] <+: billK l x (x + Top x) l.length) (hq0 : 0 ≤ q) (hq : q < t.a) (h1 : sumC p + q * t.b ≤ m) (h2 : m < sumC p + (q + 1) * t.b) :
    MostOf l x m (sumA p + q) ∧ sumC p + q * t.b = cost l x (x + (sumA p + q)) := by
  have ht := top_bd hx
  obtain ⟨k, hk, rfl, hp, rfl⟩ := bill_at l x (x + Top x) l.length p t hpre
  have hs := bill_sums l x (x + Top x) k
  rw [hs.1, hs.2]
  rw [hs.2] at h1 h2
  dsimp only at hq h1 h2 ⊢
  have e1 := cost_part h x (x + Top x) hx.1 (by omega) k hk q hq0 (by omega) hp
  have e2 := cost_part h x (x + Top x) hx.1 (by omega) k hk (q + 1) (by omega) (by omega) hp
  have hb := many_bd h x (x + Top x) hx.1 (by omega) k (by omega)
  have hb2 := many_bd h x (x + Top x) hx.1 (by omega) (k + 1) (by omega)
  rw [many_next] at hb2
  rw [e1]
  refine ⟨⟨⟨by omega, by omega⟩, by rw [e1]; exact h1, .inr ?_⟩, rfl⟩
  rw [show manyK l x (x + Top x) k + q + 1 = manyK l x (x + Top x) k + (q + 1) by omega, e2]
  exact h2
theorem sums_bd (l : List Tr) (h : ∀ t ∈ l, LineOk t) : (0 ≤ sumA l ∧ sumA l ≤ (l.length : Int) * 10000000) ∧ 0 ≤ sumC l := by
  induction l with
  | nil => exact ⟨⟨Int.le_refl _, Int.le_refl _⟩, Int.le_refl _⟩
  | cons t l ih =>
    have h1 := ih fun x hx => h x (List.mem_cons_of_mem _ hx)
    obtain ⟨a1, a2, a3, a4, a5⟩ := h t List.mem_cons_self
    have h2 := prod_bd (show 0 ≤ t.a by omega) a2 a3 a4
    rw [← a5] at h2
    have e : ((t :: l).length : Int) = (l.length : Int) + 1 := by simp
    rw [e, Int.add_mul]
    exact ⟨⟨by show 0 ≤ t.a + sumA l; omega, by show t.a + sumA l ≤ _; omega⟩, by show 0 ≤ t.c + sumC l; omega⟩
theorem quo_bd {d p q : Int} (hd : 0 ≤ d) (hp : 1 ≤ p) (hq : d / p = q) : 0 ≤ q ∧ q * p ≤ d ∧ d < (q + 1) * p ∧ q ≤ d := by
  subst hq
  have h1 := Int.ediv_nonneg hd (show 0 ≤ p by omega)
  have h2 := Int.mul_ediv_self_le (x := d) (k := p) (by omega)
  have h3 := Int.lt_mul_ediv_self_add (x := d) (k := p) (by omega)
  have h4 : d / p ≤ d := Int.ediv_le_self _ hd
  rw [Int.mul_comm] at h2 h3
  exact ⟨h1, h2, by rw [Int.add_mul]; omega, h4⟩
theorem snoc_one {p : List Ln} {t : Ln} : lns (p ++ [t]) = lns p ++ [t.1] := by rw [lns_app]; rfl
theorem sums_one (p : List Ln) (t : Ln) : sumA (lns (p ++ [t])) = sumA (lns p) + t.1.a ∧ sumC (lns (p ++ [t])) = sumC (lns p) + t.1.c := by
  rw [snoc_one, sumA_app, sumC_app]
  exact ⟨by show _ + (t.1.a + 0) = _; omega, by show _ + (t.1.c + 0) = _; omega⟩

end Go.Proofs.Ytfhlokjpdkmdjaa.tar

/- The most units for an amount, in the program. -/
namespace Go.Proofs.Ytfhlokjpdkmdjaa.tar
open Go.RowKit Go.Shelf
set_option maxRecDepth 100000
set_option linter.unusedVariables false
set_option linter.unusedSimpArgs false
attribute [local go_sem] Oper.semAt_some

def three (w : World) (m : Int) : World := ((w.alloc (.cells #[.int .i64 m] 3)).alloc (.cells #[.int .i64 0] 3)).alloc (.cells #[.int .i64 0] 3)
theorem three_size (w : World) (m : Int) : (three w m).heap.size = w.heap.size + 3 := by unfold three; simp
theorem three_m (w : World) (m : Int) : Boxed (three w m) w.heap.size 3 (.int .i64 m) := ((Boxed.new w _ _).alloc _).alloc _
theorem three_u (w : World) (m : Int) : Boxed (three w m) (w.heap.size + 1) 3 (.int .i64 0) := by
  have h := (Boxed.new (w.alloc (.cells #[.int .i64 m] 3)) 3 (.int .i64 0)).alloc (.cells #[.int .i64 0] 3)
  rw [World.size_alloc] at h
  exact h
theorem three_p (w : World) (m : Int) : Boxed (three w m) (w.heap.size + 1 + 1) 3 (.int .i64 0) := by
  have h := Boxed.new ((w.alloc (.cells #[.int .i64 m] 3)).alloc (.cells #[.int .i64 0] 3)) 3 (.int .i64 0)
  rw [World.size_alloc, World.size_alloc] at h
  exact h
theorem three_bel (w : World) (m : Int) : Below w.heap.size w (three w m) := (((Below.refl _ w).alloc (Nat.le_refl _) _).alloc (by simp) _).alloc (by simp; omega) _

/-- A round has said that no more can be paid. -/
def Full (P : Nat) (w : World) (m : Int) (c : Code) (pre : List Ln) (W : World) : Prop := (∃ (p : List Ln) (t : Ln) (q : Int), c = Code.exit 0 ∧ pre = p ++ [t] ∧ (0 ≤ q ∧ q < t.1.a ∧ sumC (lns p) + q * t.1.b ≤ m ∧ m < sumC (lns p) + (q + 1) * t.1.b) ∧ Boxed W (P + 1) 3 (.int .i64 (sumA (lns p) + q)) ∧ Boxed W (P + 1 + 1) 3 (.int .i64 (sumC (lns p) + q * t.1.b))) ∧ Below P w W
theorem full_own (P B : Nat) (w : World) (m : Int) (c : Code) (h1 : P ≤ w.heap.size) (h2 : P ≤ B) : OwnFrom B (Full P w m c) :=
  OwnFrom.and (fun pre X Y row hs hg hr => by
    obtain ⟨p, t, q, h1, h2, h3, h4, h5⟩ := hs
    exact ⟨p, t, q, h1, h2, h3, boxed_own (P + 1) 3 (fun (_ : Unit) => Value.int .i64 (sumA (lns p) + q)) () X Y row h4 hg (fun r e => (hr r e).2), boxed_own (P + 1 + 1) 3 (fun (_ : Unit) => Value.int .i64 (sumC (lns p) + q * t.1.b)) () X Y row h5 hg (fun r e => (hr r e).2)⟩) (ownFrom_below h1 h2)

set_option maxHeartbeats 4000000 in
theorem pmost_in (F : Fence) (k : Nat) (hk : 6 ≤ k) (hF : F.fn 99) (hFl : F.fn 105) (hF1 : F.fn 107) (hFc : F.fn 48) (hFw : F.fn 63) (hro : F.round = none) (w : World) (a : Option Addr) (len cap : Nat) (ls : List Du) (x m : Int) (hc : Came w a len cap ls)
    (HCK : Hid (CallsIn F (k - 1) Try.prog 48 #[.slice a len cap] (three w m) fun e w' => ErrPost (three w m) (FaultIs ls) e w'))
    (HIX : Hid (∀ W, CallsIn F (k - 1) Try.prog 63 #[.int .i64 0, .int .i64 10000000, .int .i64 x] W fun e w' => e = .returned (.bool (decide (0 ≤ x ∧ x ≤ 10000000))) ∧ w' = W))
    (HIM : Hid (∀ W, CallsIn F (k - 1) Try.prog 63 #[.int .i64 0, .int .i64 1000000000000, .int .i64 m] W fun e w' => e = .returned (.bool (decide (0 ≤ m ∧ m ≤ 1000000000000))) ∧ w' = W)) :
    CallsIn F k Try.prog 99 #[.slice a len cap, .int .i64 x, .int .i64 m] w fun e w' => ThreePost w (MostIs ls x m) e w' := by
  have h1 : 1 ≤ k := by omega
  have hmo : Try.prog.follows .mixedOrders = true := by kernel_rfl
  have HRW := hc.row
  have HLEN : Hid (ls.length = len) := hc.row.1
  clear hc
  refine callsIn_of_wp_marks Try.func99 rfl hF ?_ hro
  simp only [Try.ntmps99, List.size_toArray, List.length_cons, List.length_nil, Nat.reduceAdd, Nat.reduceSub, Array.replicate_succ, Array.replicate_zero, List.push_toArray, List.append_toArray, List.nil_append, List.cons_append]
  gi_wp2_with fail
  refine HCK.out.mono ?_
  rintro e w1 ⟨f, rfl, hf, hb⟩
  have HB : Hid (Below w.heap.size w w1) := (three_bel w m).trans (hb.mono (by rw [three_size]; omega))
  have HF : Hid (FaultIs ls f) := hf
  have bM : Boxed w1 w.heap.size 3 (.int .i64 m) := boxed_same (three_m w m) (hb.block _ (three_m w m).lt)
  have bU : Boxed w1 (w.heap.size + 1) 3 (.int .i64 0) := boxed_same (three_u w m) (hb.block _ (three_u w m).lt)
  have bP : Boxed w1 (w.heap.size + 1 + 1) 3 (.int .i64 0) := boxed_same (three_p w m) (hb.block _ (three_p w m).lt)
  have hsz1 : w.heap.size + 3 ≤ w1.heap.size := by have := hb.size; rw [three_size] at this; exact this
  clear HCK hb
  by_cases h0 : f = 0
  · subst h0
    have HR : Hid (Right ls) := hf.ok.1 rfl
    have hpos : 0 < len := by have := HR.out.1.1; have := HLEN.out; omega
    obtain ⟨b, off, rfl, hbl, hcl⟩ := HRW.at hpos
    have HC : Hid (∀ i, i < len → w.cell? ⟨b, off + i * 2, none⟩ = some (.int .i64 (ls.getD i du0).a) ∧ w.cell? ⟨b, off + i * 2 + 1, none⟩ = some (.int .i64 (ls.getD i du0).b)) := hcl
    have hl8 : len ≤ 8 := by have := HR.out.1.2; have := HLEN.out; omega
    clear hf hcl HRW
    have cM := bM.cell
    by_cases hx : 0 ≤ x ∧ x ≤ 10000000
    · rw [decide_eq_true hx] at HIX
      by_cases hmm : 0 ≤ m ∧ m ≤ 1000000000000
      · rw [decide_eq_true hmm] at HIM
        have HMM : Hid (MayMost x m) := ⟨hx, hmm⟩
        have HTP : Hid (0 ≤ Top x ∧ x + Top x ≤ 10000000) := top_bd hx
        obtain ⟨hx0, hx1⟩ := hx
        obtain ⟨hm0, hm1⟩ := hmm
        gi_wp2_with fail
        refine (HIX.out _).mono ?_
        rintro e w2 ⟨rfl, hw2⟩
        subst w2
        gi_wp2_with fail
        refine (HIM.out _).mono ?_
        rintro e w2 ⟨rfl, hw2⟩
        subst w2
        clear HIX HIM
        have hmin := run_min 2097151 (10000000 - x) (Top x) rfl
        have HTX : Hid (Top x = Top x) := rfl
        generalize hT : Top x = T at *
        gi_wp2_with (gi_at_call 105; refine (lines_in F (k - 1) hFl hro _ _ _ _ _ _).mono ?_; rintro e w' ⟨rfl, rfl⟩)
        have hL := lnd_of (w := w) (w1 := w1) w.heap.size w1.heap.size b off len cap HR.out HLEN.out ⟨hx0, hx1⟩ HTP.out rfl hbl (by omega) HB.out HC.out
        have bM2 := boxes_boxed bM (.slice (some ⟨b, off, none⟩) len cap) x T
        have bU2 := boxes_boxed bU (.slice (some ⟨b, off, none⟩) len cap) x T
        have bP2 := boxes_boxed bP (.slice (some ⟨b, off, none⟩) len cap) x T
        have hB2 : Below w.heap.size w (boxes w1 (.slice (some ⟨b, off, none⟩) len cap) x T) := boxes_bel HB.out (by omega) _ _ _
        have hsz := boxes_size w1 (.slice (some ⟨b, off, none⟩) len cap) x T
        generalize boxes w1 (.slice (some ⟨b, off, none⟩) len cap) x T = W0 at *
        generalize hB1 : w1.heap.size = B at *
        generalize hP0 : w.heap.size = P at *
        clear bM bU bP cM hmin
        refine wpIn_rangeFunc_ownH hro h1 (gf := 107) (lb := #[.pointer (some ⟨B + 1, 0, none⟩), .pointer (some ⟨B, 0, none⟩), .pointer (some ⟨B + 1 + 1, 0, none⟩)]) rfl hF1 (enters_of Try.func107 (by kernel_rfl) rfl)
          (lines_stops F (k - 1) hF1 hro (by omega) P B b off len cap ls x T W0 hL) Kq.trans (kq_b hL.hn (by omega)) (Below.refl _ _) (fun _ => rfl)
          (fun pre W => (Boxed W P 3 (.int .i64 m) ∧ Boxed W (P + 1) 3 (.int .i64 (sumA (lns pre))) ∧ Boxed W (P + 1 + 1) 3 (.int .i64 (sumC (lns pre)))) ∧ sumC (lns pre) ≤ m ∧ Below P w W ∧ W0.heap.size ≤ W.heap.size)
          (Full P w m)
          (OwnFrom.and (OwnFrom.and (Own.from (boxed_own _ _ _) _) (OwnFrom.and (Own.from (boxed_own _ _ _) _) (Own.from (boxed_own _ _ _) _))) (OwnFrom.and (ownFrom_pure _ _) (OwnFrom.and (ownFrom_below (by omega) (by omega)) (fun _ _ _ _ hs hg _ => Nat.le_trans hs hg.size))))
          (fun c => full_own P _ w m c (by omega) (by omega))
          ⟨⟨bM2, bU2, bP2⟩, hm0, hB2, Nat.le_refl _⟩
          (fun t a' W => ∃ Bx, B + 3 ≤ Bx ∧ Blk W Bx #[.int .i64 t.1.a, .int .i64 t.1.b, .int .i64 t.1.c] 147 ∧ a' = { tmps := #[.slice (some ⟨b, off, none⟩) len cap, .int .i64 x, .int .i64 m, undef, undef, .pointer (some ⟨P, 0, none⟩), .pointer (some ⟨P + 1, 0, none⟩), .pointer (some ⟨P + 1 + 1, 0, none⟩), .int .i64 0, .pointer (some ⟨Bx, 0, none⟩), undef, .slice (some ⟨b, off, none⟩) len cap, .int .i64 0, .int .i64 0, .bool false, undef, .int .i64 x, .bool true, .bool false, .bool false, .int .i64 m, .bool true, .bool false, .bool false, .slice (some ⟨b, off, none⟩) len cap, .int .i64 x, .int .i64 x, .int .i64 (10000000 - x), .int .i64 T, .func (.func 107) #[] #[.pointer (some ⟨B + 1, 0, none⟩), .pointer (some ⟨B, 0, none⟩), .pointer (some ⟨B + 1 + 1, 0, none⟩)], .agg #[.int .i64 t.1.a, .int .i64 t.1.b, .int .i64 t.1.c], undef, undef, undef, undef, undef, undef, undef, undef, undef, undef, undef, undef, undef, undef, undef, undef, undef, undef, undef, undef, undef, undef, undef, undef], defers := [] })
          (fun t a' _ X Y row hs hg hr => by obtain ⟨Bx, h1, h2, h3⟩ := hs; exact ⟨Bx, h1, blk_own Bx 147 (fun (_ : Unit) => #[.int .i64 t.1.a, .int .i64 t.1.b, .int .i64 t.1.c]) () X Y row h2 hg (fun r e => (hr r e).2), h3⟩)
          ?assign ?body ?done ?stop
        case assign =>
          rintro l pre t W K ⟨⟨b1, b2, b3⟩, hle, hBS, hSW⟩ hK
          simp only [encL]
          gi_wp2
          exact hK _ _ ((KeepsOthers.alloc _ _).from _) ((Kq.refl _ _ _ W).alloc _ (by omega) (by omega)) ⟨⟨b1.alloc _, b2.alloc _, b3.alloc _⟩, hle, hBS.alloc (by omega) _, by simp; omega⟩ ⟨W.heap.size, by omega, Blk.new W _ _, rfl⟩
        case body =>
          rintro l pre t a' W hl ⟨r, hr⟩ ⟨⟨b1, b2, b3⟩, hle, hBS, hSW⟩ ⟨Bx, hBx, bX, rfl⟩ hlt
          have h2 := sums_bd (lns pre) (lns_ok pre)
          have h3 := lns_len pre
          have h4 := t.2.1
          have h5 := t.2.2.1
          have h6 := t.2.2.2.1
          have h7 := t.2.2.2.2.1
          have h8 := t.2.2.2.2.2
          have h9 := prod_bd (show 0 ≤ t.1.a by omega) h5 h6 h7
          rw [← h8] at h9
          have HN := sums_one pre t
          have c1 := b1.cell
          have c2 := b2.cell
          have c3 := b3.cell
          have f2 := b2.frozen
          have f3 := b3.frozen
          have cX0 : W.cell? ⟨Bx, 0, none⟩ = some (.int .i64 t.1.a) := bX.cell 0
          have cX1 : W.cell? ⟨Bx, 1, none⟩ = some (.int .i64 t.1.b) := bX.cell 1
          have hs0 : 0 ≤ sumC (lns pre) := h2.2
          have hs2 : sumA (lns pre) ≤ 80000000 := by have := h2.1.2; omega
          have hs1 : 0 ≤ sumA (lns pre) := h2.1.1
          have hq := quo_bd (d := m - sumC (lns pre)) (p := t.1.b) (by omega) h6 rfl
          have hp0 : (t.1.b == 0) = false := by simp; omega
          have hqe : (m - sumC (lns pre)).tdiv t.1.b = (m - sumC (lns pre)) / t.1.b := Int.tdiv_eq_ediv_of_nonneg (by omega)
          clear h2 h3
          obtain ⟨hN1, hN2⟩ := HN
          have HN1 : Hid (sumA (lns (pre ++ [t])) = sumA (lns pre) + t.1.a) := hN1
          have HN2 : Hid (sumC (lns (pre ++ [t])) = sumC (lns pre) + t.1.c) := hN2
          have HTC : Hid (t.1.c = t.1.a * t.1.b) := h8
          have HXI : Hid (∀ q W', 0 ≤ q ∧ q < t.1.a ∧ sumC (lns pre) + q * t.1.b ≤ m ∧ m < sumC (lns pre) + (q + 1) * t.1.b → Boxed W' (P + 1) 3 (.int .i64 (sumA (lns pre) + q)) → Boxed W' (P + 1 + 1) 3 (.int .i64 (sumC (lns pre) + q * t.1.b)) → Below P w W' → Full P w m (.exit 0) (pre ++ [t]) W') := fun q W' h1 h2 h3 h4 => ⟨⟨pre, t, q, rfl, rfl, h1, h2, h3⟩, h4⟩
          clear hN1 hN2 h8
          generalize t.1.a = ta at *
          generalize t.1.b = tb at *
          generalize t.1.c = tc at *
          generalize sumC (lns pre) = s at *
          generalize sumA (lns pre) = u at *
          have hd0 : 0 ≤ m - s := by omega
          have hd1 : m - s ≤ 1000000000000 := by omega
          generalize (m - s) / tb = q at *
          obtain ⟨q0, q1, q2, q3⟩ := hq
          by_cases hlt2 : q < ta
          · have hmin := run_min ta q q (by omega)
            have hq4 := prod_bd (o := q) (p := tb) q0 (by omega) h6 h7
            obtain ⟨hq5, hq6⟩ := hq4
            have hdd : decide (q < ta) = true := decide_eq_true hlt2
            gi_wp2_with fail
            refine round_quiet hro hmo (by kernel_rfl) (by kernel_rfl) ?_
            repeat (gi_big_quiet_step (fail))
            refine wpQuietIn_nil ?_
            intro _ hw'
            obtain ⟨nq, hw''⟩ := hw'
            subst hw''
            have e1 : Boxed (W.drewN nq) P 3 (.int .i64 m) := b1
            have e2 : Boxed (W.drewN nq) (P + 1) 3 (.int .i64 u) := b2
            have e3 : Boxed (W.drewN nq) (P + 1 + 1) 3 (.int .i64 s) := b3
            have eX : Blk (W.drewN nq) Bx #[.int .i64 ta, .int .i64 tb, .int .i64 tc] 147 := bX
            have eK : KeepsOthers W (W.drewN nq) := ⟨Nat.le_refl _, fun _ _ h _ => h⟩
            have eQ : Kq P B (B + 3) W (W.drewN nq) := ⟨bel_drewN (Below.refl _ _) nq, fun _ _ _ => rfl⟩
            have eB : Below P w (W.drewN nq) := bel_drewN hBS nq
            have eS : W0.heap.size ≤ (W.drewN nq).heap.size := hSW
            clear c1 c2 c3 f2 f3 cX0 cX1 hmin b1 b2 b3 bX hBS hSW
            generalize W.drewN nq = V at *
            have c2 := e2.cell
            have f2 := e2.frozen
            have c3 := fun v => (e3.other (B' := P + 1) (by omega) v).cell
            have f3 := fun v => (e3.other (B' := P + 1) (by omega) v).frozen
            have cX1 : ∀ v, (V.setCell ⟨P + 1, 0, none⟩ v).cell? ⟨Bx, 1, none⟩ = some (.int .i64 tb) := fun v => (eX.other 0 v (by omega)).cell 1
            have cX0 : ∀ v v2, ((V.setCell ⟨P + 1, 0, none⟩ v).setCell ⟨P + 1 + 1, 0, none⟩ v2).cell? ⟨Bx, 0, none⟩ = some (.int .i64 ta) := fun v v2 => ((eX.other 0 v (by omega)).other 0 v2 (by omega)).cell 0
            gi_wp2_with fail
            exact ⟨((eK.trans (KeepsOthers.setCell _ _ _)).trans (KeepsOthers.setCell _ _ _)).from _, HXI.out q _ ⟨q0, hlt2, by omega, by omega⟩ ((e2.set _).other (by omega) _) ((e3.other (by omega) _).set _) ((eB.setCell (p := ⟨P + 1, 0, none⟩) (by show P ≤ P + 1; omega) _).setCell (p := ⟨P + 1 + 1, 0, none⟩) (by show P ≤ P + 1 + 1; omega) _)⟩
          · have hmin := run_min ta q ta (by omega)
            have hta : ta * tb = tc := HTC.out.symm
            have htc0 : 0 ≤ tc := h9.1
            have htc1 : tc ≤ 1000000000000 := h9.2
            have hml : tc ≤ q * tb := by rw [← hta]; exact Int.mul_le_mul_of_nonneg_right (by omega) (by omega)
            have hdd : decide (ta < ta) = false := decide_eq_false (by omega)
            gi_wp2_with fail
            refine round_quiet hro hmo (by kernel_rfl) (by kernel_rfl) ?_
            repeat (gi_big_quiet_step (fail))
            refine wpQuietIn_nil ?_
            intro _ hw'
            obtain ⟨nq, hw''⟩ := hw'
            subst hw''
            have e1 : Boxed (W.drewN nq) P 3 (.int .i64 m) := b1
            have e2 : Boxed (W.drewN nq) (P + 1) 3 (.int .i64 u) := b2
            have e3 : Boxed (W.drewN nq) (P + 1 + 1) 3 (.int .i64 s) := b3
            have eX : Blk (W.drewN nq) Bx #[.int .i64 ta, .int .i64 tb, .int .i64 tc] 147 := bX
            have eK : KeepsOthers W (W.drewN nq) := ⟨Nat.le_refl _, fun _ _ h _ => h⟩
            have eQ : Kq P B (B + 3) W (W.drewN nq) := ⟨bel_drewN (Below.refl _ _) nq, fun _ _ _ => rfl⟩
            have eB : Below P w (W.drewN nq) := bel_drewN hBS nq
            have eS : W0.heap.size ≤ (W.drewN nq).heap.size := hSW
            clear c1 c2 c3 f2 f3 cX0 cX1 hmin b1 b2 b3 bX hBS hSW
            generalize W.drewN nq = V at *
            have c2 := e2.cell
            have f2 := e2.frozen
            have c3 := fun v => (e3.other (B' := P + 1) (by omega) v).cell
            have f3 := fun v => (e3.other (B' := P + 1) (by omega) v).frozen
            have cX1 : ∀ v, (V.setCell ⟨P + 1, 0, none⟩ v).cell? ⟨Bx, 1, none⟩ = some (.int .i64 tb) := fun v => (eX.other 0 v (by omega)).cell 1
            have cX0 : ∀ v v2, ((V.setCell ⟨P + 1, 0, none⟩ v).setCell ⟨P + 1 + 1, 0, none⟩ v2).cell? ⟨Bx, 0, none⟩ = some (.int .i64 ta) := fun v v2 => ((eX.other 0 v (by omega)).other 0 v2 (by omega)).cell 0
            gi_wp2_with fail
            exact ⟨((eK.trans (KeepsOthers.setCell _ _ _)).trans (KeepsOthers.setCell _ _ _)).from _, (eQ.set (P + 1) 0 _ (by omega) (.inl (by omega))).set (P + 1 + 1) 0 _ (by omega) (.inl (by omega)), ⟨(e1.other (by omega) _).other (by omega) _, by rw [HN1.out]; exact (e2.set _).other (by omega) _, by rw [HN2.out]; exact (e3.other (by omega) _).set _⟩, by rw [HN2.out]; omega, (eB.setCell (p := ⟨P + 1, 0, none⟩) (by show P ≤ P + 1; omega) _).setCell (p := ⟨P + 1 + 1, 0, none⟩) (by show P ≤ P + 1 + 1; omega) _, by simp [World.setCell]; omega⟩
        case done =>
          rintro D ys W hD hys ⟨⟨b1, b2, b3⟩, hle, hBS, hSW⟩ hK
          have HM : Hid (MostOf ls x m (sumA (lns ys)) ∧ sumC (lns ys) = cost ls x (x + sumA (lns ys))) := by
            have h := most_all HR.out x m ⟨hx0, hx1⟩
            rw [hT, HLEN.out, ← hys] at h
            exact h hle
          clear hys hle
          generalize sumA (lns ys) = u at *
          generalize sumC (lns ys) = s at *
          gi_wp2_with fail
          obtain ⟨Z, hZ⟩ : ∃ Z, ((W.setCell ⟨P + 1, 0, none⟩ (.int .i64 u)).setCell ⟨P + 1 + 1, 0, none⟩ (.int .i64 s)).drew = Z := ⟨_, rfl⟩
          have hKD : Z.heap[D]? = some (.deferred (some [])) := by
            rw [← hZ]
            exact ((KeepsOthers.setCell W ⟨P + 1, 0, none⟩ (.int .i64 u)).trans (KeepsOthers.setCell _ ⟨P + 1 + 1, 0, none⟩ (.int .i64 s))).same D _ hK rfl
          have HE2 : Boxed Z (P + 1) 3 (.int .i64 u) := by rw [← hZ]; exact (b2.set (.int .i64 u)).other (B' := P + 1 + 1) (by omega) (.int .i64 s)
          have HE3 : Boxed Z (P + 1 + 1) 3 (.int .i64 s) := by rw [← hZ]; exact (b3.other (B' := P + 1) (by omega) (.int .i64 u)).set (.int .i64 s)
          have HEB : Hid (Below w.heap.size w (Z.putObj D (.deferred none))) := by
            have h : Below P w Z := by
              rw [← hZ]
              exact bel_drewN ((hBS.setCell (p := ⟨P + 1, 0, none⟩) (by show P ≤ P + 1; omega) _).setCell (p := ⟨P + 1 + 1, 0, none⟩) (by show P ≤ P + 1 + 1; omega) _) 1
            show Below w.heap.size w (Z.putObj D (.deferred none))
            rw [hP0]
            exact h.trans (belowK_b (w := w) (by omega) _ D _ _ (by omega) hKD rfl rfl)
          have r2 := cell_kept HE2.cell (grownBy_putObj' _ D (.deferred none)) (fun r e => by cases e; exact ⟨_, hKD, rfl⟩)
          have r3 := cell_kept HE3.cell (grownBy_putObj' _ D (.deferred none)) (fun r e => by cases e; exact ⟨_, hKD, rfl⟩)
          have HZ : Hid (((W.setCell ⟨P + 1, 0, none⟩ (.int .i64 u)).setCell ⟨P + 1 + 1, 0, none⟩ (.int .i64 s)).drew = Z) := hZ
          clear hZ
          have g2 := b2.cell
          have g2' := b2.frozen
          have g3 := b3.cell
          have g3' := fun v => (b3.other (B' := P + 1) (by omega) v).cell
          have g3'' := fun v => (b3.other (B' := P + 1) (by omega) v).frozen
          gi_region_with_o (fail)
          all_goals gi_wp2
          all_goals rw [HZ.out]
          all_goals refine ⟨by simp, .inl ⟨_, _, rfl, run_takeDeferred hKD, ?_⟩⟩
          all_goals refine ⟨.tuple #[.int .i64 u, .int .i64 s, .int .i64 0], ?_, u, s, 0, rfl, .inr (.inr ⟨HR.out, HMM.out, rfl, HM.out.1, HM.out.2⟩), HEB.out⟩
          all_goals simp [results, Try.f99, go_sem, r2, r3]
        case stop =>
          rintro D c pre W hD hpre ⟨⟨p, t, q, rfl, rfl, ⟨g1, g2, g3, g4⟩, b2, b3⟩, hBS⟩ hK
          have HM : Hid (MostOf ls x m (sumA (lns p) + q) ∧ sumC (lns p) + q * t.1.b = cost ls x (x + (sumA (lns p) + q))) := by
            have h := most_cut HR.out x m q ⟨hx0, hx1⟩ (lns p) t.1
            rw [hT, HLEN.out, ← snoc_one] at h
            exact h hpre g1 g2 g3 g4
          clear hpre g3 g4
          generalize sumA (lns p) + q = u at *
          generalize sumC (lns p) + q * t.1.b = s at *
          gi_wp2_with fail
          obtain ⟨Z, hZ⟩ : ∃ Z, ((W.setCell ⟨P + 1, 0, none⟩ (.int .i64 u)).setCell ⟨P + 1 + 1, 0, none⟩ (.int .i64 s)).drew = Z := ⟨_, rfl⟩
          have hKD : Z.heap[D]? = some (.deferred (some [])) := by
            rw [← hZ]
            exact ((KeepsOthers.setCell W ⟨P + 1, 0, none⟩ (.int .i64 u)).trans (KeepsOthers.setCell _ ⟨P + 1 + 1, 0, none⟩ (.int .i64 s))).same D _ hK rfl
          have HE2 : Boxed Z (P + 1) 3 (.int .i64 u) := by rw [← hZ]; exact (b2.set (.int .i64 u)).other (B' := P + 1 + 1) (by omega) (.int .i64 s)
          have HE3 : Boxed Z (P + 1 + 1) 3 (.int .i64 s) := by rw [← hZ]; exact (b3.other (B' := P + 1) (by omega) (.int .i64 u)).set (.int .i64 s)
          have HEB : Hid (Below w.heap.size w (Z.putObj D (.deferred none))) := by
            have h : Below P w Z := by
              rw [← hZ]
              exact bel_drewN ((hBS.setCell (p := ⟨P + 1, 0, none⟩) (by show P ≤ P + 1; omega) _).setCell (p := ⟨P + 1 + 1, 0, none⟩) (by show P ≤ P + 1 + 1; omega) _) 1
            show Below w.heap.size w (Z.putObj D (.deferred none))
            rw [hP0]
            exact h.trans (belowK_b (w := w) (by omega) _ D _ _ (by omega) hKD rfl rfl)
          have r2 := cell_kept HE2.cell (grownBy_putObj' _ D (.deferred none)) (fun r e => by cases e; exact ⟨_, hKD, rfl⟩)
          have r3 := cell_kept HE3.cell (grownBy_putObj' _ D (.deferred none)) (fun r e => by cases e; exact ⟨_, hKD, rfl⟩)
          have HZ : Hid (((W.setCell ⟨P + 1, 0, none⟩ (.int .i64 u)).setCell ⟨P + 1 + 1, 0, none⟩ (.int .i64 s)).drew = Z) := hZ
          clear hZ
          have g2 := b2.cell
          have g2' := b2.frozen
          have g3 := b3.cell
          have g3' := fun v => (b3.other (B' := P + 1) (by omega) v).cell
          have g3'' := fun v => (b3.other (B' := P + 1) (by omega) v).frozen
          gi_region_with_o (fail)
          all_goals gi_wp2
          all_goals rw [HZ.out]
          all_goals refine ⟨by simp, .inl ⟨_, _, rfl, run_takeDeferred hKD, ?_⟩⟩
          all_goals refine ⟨.tuple #[.int .i64 u, .int .i64 s, .int .i64 0], ?_, u, s, 0, rfl, .inr (.inr ⟨HR.out, HMM.out, rfl, HM.out.1, HM.out.2⟩), HEB.out⟩
          all_goals simp [results, Try.f99, go_sem, r2, r3]
      · rw [decide_eq_false hmm] at HIM
        have HN : Hid (¬ MayMost x m) := fun h => hmm h.2
        clear hmm
        have e2 := (bU.set (.int .i64 0)).other (B' := w.heap.size + 1 + 1) (by omega) (.int .i64 0)
        have e3 := (bP.other (B' := w.heap.size + 1) (by omega) (.int .i64 0)).set (.int .i64 0)
        have cU := bU.cell
        have fU := bU.frozen
        have cP := fun v => (bP.other (B' := w.heap.size + 1) (by omega) v).cell
        have fP := fun v => (bP.other (B' := w.heap.size + 1) (by omega) v).frozen
        have HEB : Hid (Below w.heap.size w ((w1.setCell ⟨w.heap.size + 1, 0, none⟩ (.int .i64 0)).setCell ⟨w.heap.size + 1 + 1, 0, none⟩ (.int .i64 0))) := (HB.out.setCell (p := ⟨w.heap.size + 1, 0, none⟩) (by show w.heap.size ≤ w.heap.size + 1; omega) _).setCell (p := ⟨w.heap.size + 1 + 1, 0, none⟩) (by show w.heap.size ≤ w.heap.size + 1 + 1; omega) _
        gi_wp2_with fail
        refine (HIX.out _).mono ?_
        rintro e w2 ⟨rfl, hw2⟩
        subst w2
        gi_wp2_with fail
        refine (HIM.out _).mono ?_
        rintro e w2 ⟨rfl, hw2⟩
        subst w2
        gi_wp2_with fail
        have r2 := e2.cell
        have r3 := e3.cell
        refine ⟨.tuple #[.int .i64 0, .int .i64 0, .int .i64 2], ?_, 0, 0, 2, rfl, .inr (.inl ⟨HR.out, HN.out, rfl, rfl, rfl⟩), HEB.out⟩
        simp [results, Try.f99, go_sem, r2, r3]
    · rw [decide_eq_false hx] at HIX
      have HN : Hid (¬ MayMost x m) := fun h => hx h.1
      clear hx
      have e2 := (bU.set (.int .i64 0)).other (B' := w.heap.size + 1 + 1) (by omega) (.int .i64 0)
      have e3 := (bP.other (B' := w.heap.size + 1) (by omega) (.int .i64 0)).set (.int .i64 0)
      have cU := bU.cell
      have fU := bU.frozen
      have cP := fun v => (bP.other (B' := w.heap.size + 1) (by omega) v).cell
      have fP := fun v => (bP.other (B' := w.heap.size + 1) (by omega) v).frozen
      have HEB : Hid (Below w.heap.size w ((w1.setCell ⟨w.heap.size + 1, 0, none⟩ (.int .i64 0)).setCell ⟨w.heap.size + 1 + 1, 0, none⟩ (.int .i64 0))) := (HB.out.setCell (p := ⟨w.heap.size + 1, 0, none⟩) (by show w.heap.size ≤ w.heap.size + 1; omega) _).setCell (p := ⟨w.heap.size + 1 + 1, 0, none⟩) (by show w.heap.size ≤ w.heap.size + 1 + 1; omega) _
      gi_wp2_with fail
      refine (HIX.out _).mono ?_
      rintro e w2 ⟨rfl, hw2⟩
      subst w2
      gi_wp2_with fail
      have r2 := e2.cell
      have r3 := e3.cell
      refine ⟨.tuple #[.int .i64 0, .int .i64 0, .int .i64 2], ?_, 0, 0, 2, rfl, .inr (.inl ⟨HR.out, HN.out, rfl, rfl, rfl⟩), HEB.out⟩
      simp [results, Try.f99, go_sem, r2, r3]
  · have hne : (f != 0) = true := by simpa using h0
    have HN : Hid (¬ Right ls) := fun h => h0 (hf.ok.2 h)
    clear hf h0 HRW
    have e2 := (bU.set (.int .i64 0)).other (B' := w.heap.size + 1 + 1) (by omega) (.int .i64 0)
    have e3 := (bP.other (B' := w.heap.size + 1) (by omega) (.int .i64 0)).set (.int .i64 0)
    have cU := bU.cell
    have fU := bU.frozen
    have cP := fun v => (bP.other (B' := w.heap.size + 1) (by omega) v).cell
    have fP := fun v => (bP.other (B' := w.heap.size + 1) (by omega) v).frozen
    have HEB : Hid (Below w.heap.size w ((w1.setCell ⟨w.heap.size + 1, 0, none⟩ (.int .i64 0)).setCell ⟨w.heap.size + 1 + 1, 0, none⟩ (.int .i64 0))) := (HB.out.setCell (p := ⟨w.heap.size + 1, 0, none⟩) (by show w.heap.size ≤ w.heap.size + 1; omega) _).setCell (p := ⟨w.heap.size + 1 + 1, 0, none⟩) (by show w.heap.size ≤ w.heap.size + 1 + 1; omega) _
    gi_wp2_with fail
    have r2 := e2.cell
    have r3 := e3.cell
    refine ⟨.tuple #[.int .i64 0, .int .i64 0, .int .i64 f], ?_, 0, 0, f, rfl, .inl ⟨HN.out, HF.out, rfl, rfl⟩, HEB.out⟩
    simp [results, Try.f99, go_sem, r2, r3]

theorem kmost : KtMost := fun w a len cap ls x n hc _ _ => (callsIn_wide (n := 6)).1 (pmost_in Fence.wide 6 (by omega) trivial trivial trivial trivial trivial rfl w a len cap ls x n hc (callsIn_wide.2 (kcheck (three w n) a len cap ls (hc.below (three_bel w n)))) (fun W => callsIn_wide.2 (pwithin 0 10000000 x W)) (fun W => callsIn_wide.2 (pwithin 0 1000000000000 n W)))

end Go.Proofs.Ytfhlokjpdkmdjaa.tar

/- A sale, to an account at work. -/
namespace Go.Proofs.Ytfhlokjpdkmdjaa.acc
open Go.Proofs.Ytfhlokjpdkmdjaa.tar (Du du0 Came RowD Ld PairT)
open Go.RowKit
set_option maxRecDepth 100000
set_option linter.unusedVariables false
set_option linter.unusedSimpArgs false

set_option maxHeartbeats 16000000 in
theorem psell (g : Nat) (x : Ac) (p : Option Addr) (len cap : Nat) (t : Tm) (pt : Option Addr) (lt ct : Nat) (te m : Int) (w : World) (hw : Blk w g (wcs x bi0 p len cap) 134) (hd : deb.Fresh w (g + 1) p len cap x.ds) (ha : AMay x) (ht : Came w pt lt ct t.ts) (hwf : wf4 t) (hfar : Far pt lt g) : Calls Try.prog 88 #[.pointer (some ⟨g, 0, none⟩), .agg #[.slice pt lt ct, .int .i64 t.ff, .int .i64 t.fb, .int .i64 t.db, .int .i64 t.al], .int .i64 te, .int .i64 m] w fun e w' => DPost w g (Or0 (SellIs x t te m)) e w' := by
  have HIT : Hid (∀ W, Calls Try.prog 49 #[.int .i64 1, .int .i64 100000000, .int .i64 te] W fun e w' => e = .returned (.bool (decide (1 ≤ te ∧ te ≤ 100000000))) ∧ w' = W) := fun W => awithin 1 100000000 te W
  have hgl := hw.lt
  have H0B : Hid (Below w.heap.size w (w.alloc (.cells #[.slice pt lt ct, .int .i64 t.ff, .int .i64 t.fb, .int .i64 t.db, .int .i64 t.al] 40))) := (Below.refl w.heap.size w).alloc (by simp) _
  have H0C : Hid (Chg w (w.alloc (.cells #[.slice pt lt ct, .int .i64 t.ff, .int .i64 t.fb, .int .i64 t.db, .int .i64 t.al] 40)) g) := .of H0B.out
  have H0t : Hid (Blk (w.alloc (.cells #[.slice pt lt ct, .int .i64 t.ff, .int .i64 t.fb, .int .i64 t.db, .int .i64 t.al] 40)) (w.heap.size) #[.slice pt lt ct, .int .i64 t.ff, .int .i64 t.fb, .int .i64 t.db, .int .i64 t.al] 40) := Blk.new w _ _
  have H0g : Hid (Blk (w.alloc (.cells #[.slice pt lt ct, .int .i64 t.ff, .int .i64 t.fb, .int .i64 t.db, .int .i64 t.al] 40)) g (wcs x bi0 p len cap) 134) := hw.alloc _
  have H0D : Hid (deb.Fresh (w.alloc (.cells #[.slice pt lt ct, .int .i64 t.ff, .int .i64 t.fb, .int .i64 t.db, .int .i64 t.al] 40)) (g + 1) p len cap x.ds) := hd.below H0B.out
  have H0T : Hid (Came (w.alloc (.cells #[.slice pt lt ct, .int .i64 t.ff, .int .i64 t.fb, .int .i64 t.db, .int .i64 t.al] 40)) pt lt ct t.ts) := ht.below H0B.out
  have HFAR : Hid (Far pt lt g) := hfar
  have HBG : Hid (∀ W, Blk W g (wcs x bi0 p len cap) 134 → deb.Fresh W (g + 1) p len cap x.ds → Came W pt lt ct t.ts → Calls Try.prog 96 #[.pointer (some ⟨g, 0, none⟩), .agg #[.slice pt lt ct, .int .i64 t.ff, .int .i64 t.fb, .int .i64 t.db, .int .i64 t.al], .int .i64 m] W fun e w' => DPost W g (BeginR x t m bi0) e w') := fun W h1 h2 h3 => pbegin g x p len cap t pt lt ct bi0 m W h1 h2 ha h3 hwf hfar
  have HM : Hid (AMay x) := ha
  have hnx := ha.2.2.2.1
  clear hw hd ht hwf hfar ha H0B
  generalize hWW : (w.alloc (.cells #[.slice pt lt ct, .int .i64 t.ff, .int .i64 t.fb, .int .i64 t.db, .int .i64 t.al] 40)) = W0 at *
  have HWW : Hid ((w.alloc (.cells #[.slice pt lt ct, .int .i64 t.ff, .int .i64 t.fb, .int .i64 t.db, .int .i64 t.al] 40)) = W0) := hWW
  clear hWW
  go_enter Try.func88, Try.ntmps88
  go_upto_region 1 with fail
  rw [HWW.out]
  clear HWW
  go_wp2_with (first | (refine wp_whole rfl 40 _ rfl _ rfl 40 _ _ H0t.out Try.underlying40 rfl (by kernel_rfl) ?_) | fail)
  refine (HBG.out _ H0g.out H0D.out H0T.out).mono ?_
  rintro e w1 ⟨y, b2, q, n, c, f, rfl, ⟨hr, hb2⟩, hi1, hf1, hc1⟩
  subst hb2
  have H1D : Hid (deb.Fresh w1 (g + 1) q n c y.ds) := hf1
  have H1g : Hid (Blk w1 g #[.int .i64 y.me, .int .i64 y.rv, .int .i64 y.nx, .int .i64 y.mo, .int .i64 y.bo, .int .i64 y.fr, .slice q n c, .int .i64 0, .int .i64 0, .int .i64 0, .int .i64 0, .int .i64 0, .int .i64 0, .int .i64 0] 134) := hi1
  have H1t : Hid (Blk w1 (w.heap.size) #[.slice pt lt ct, .int .i64 t.ff, .int .i64 t.fb, .int .i64 t.db, .int .i64 t.al] 40) := Chg.keep (g := g) (hc1) H0t.out (by omega)
  have H1T : Hid (Came w1 pt lt ct t.ts) := came_chg H0T.out (hc1) HFAR.out
  have H1C : Hid (Chg w w1 g) := H0C.out.trans (hc1)
  clear H0C H0g H0t H0T hf1 hc1 hi1 H0D HBG
  by_cases h0 : f = 0
  · skip
    subst h0
    have hrr : TRight t ∧ RMay x m ∧ y = rolled x m := by
      rcases hr with ⟨h1, h2, _⟩ | ⟨_, _, h3, _⟩ | ⟨h1, h2, h3, _⟩
      · exact absurd (h2.ok.1 rfl) h1
      · exact absurd rfl h3.ne
      · exact ⟨h1, h2, h3⟩
    have HRY : Hid (Ready x t m) := ⟨HM.out, hrr.1, hrr.2.1⟩
    have HT : Hid (TRight t) := hrr.1
    have HBR : Hid (y = rolled x m) := hrr.2.2
    have hbs := rolled_same x m
    rw [← hrr.2.2] at hbs
    have hbo := (rolled_may HM.out hrr.2.1).2.2.2.2.2.1
    rw [← hrr.2.2] at hbo
    have hdm : deb.Mays y.ds := by rw [hrr.2.2]; exact (rolled_may HM.out hrr.2.1).1
    have HYN : Hid (y.nx = x.nx) := hbs.2.2.1
    have hyx : 1 ≤ y.nx ∧ y.nx ≤ 1048576 := by rw [hbs.2.2.1]; exact hnx
    have HBS : Hid (y.me = x.me ∧ y.rv = x.rv ∧ y.nx = x.nx ∧ y.mo = m ∧ y.fr = x.fr) := hbs
    clear hrr hr hbs
    by_cases h5 : 1 ≤ te ∧ te ≤ 100000000
    · rw [decide_eq_true h5] at HIT
      go_wp2_with fail
      refine (HIT.out _).mono ?_
      rintro e wz ⟨rfl, hwz⟩
      subst wz
      clear HIT
      go_wp2_with fail
      have htok := HT.out.2
      have HTM : Hid (deb.TMay te t.db) := ⟨⟨by omega, h5.2⟩, htok.2.2.1⟩
      have HRE : Hid (Calls Try.prog 97 #[.slice q n c, .int .i64 te, .int .i64 t.db] w1.drew fun e w' => deb.RecPost w1.drew y.ds te t.db e w') := deb.krec _ q n c y.ds te t.db (fresh_drew H1D.out).came (tar.wf_mid (by omega) (by omega)) (tar.wf_mid htok.2.2.1.1 (by have := htok.2.2.1.2; omega))
      have HPA : Hid (∀ W, Calls Try.prog 98 #[.int .i64 te, .int .i64 t.fb] W fun e w' => e = .returned (.tuple #[.int .i64 (te * t.fb / 10000), .int .i64 0]) ∧ Below W.heap.size W w') := fun W => cents.part_yes te t.fb W (by omega) (by omega) htok.2.1.1 htok.2.1.2
      have hpb := deb.share_bd (t := te) (bp := t.fb) ⟨⟨by omega, h5.2⟩, htok.2.1⟩
      have hsb := deb.share_bd HTM.out
      refine wp_region_held_drew (S := fun v => Blk v (g) #[.int .i64 y.me, .int .i64 y.rv, .int .i64 y.nx, .int .i64 y.mo, .int .i64 y.bo, .int .i64 y.fr, .slice q n c, .int .i64 0, .int .i64 0, .int .i64 0, .int .i64 0, .int .i64 0, .int .i64 0, .int .i64 0] 134 ∧ Blk v (w.heap.size) #[.slice pt lt ct, .int .i64 t.ff, .int .i64 t.fb, .int .i64 t.db, .int .i64 t.al] 40) (by kernel_rfl) ⟨Blk.drew H1g.out 1, Blk.drew H1t.out 1⟩ (fun hHeld => ?_)
      refine take_at 0 31 (.pointer (some ⟨g, 0, none⟩)) _ rfl rfl (by kernel_rfl) (by kernel_rfl) (by kernel_rfl) (fun _ _ _ h => h) (Or.inl ⟨by rfl, fun v hv => by clear hv; go_simp⟩) hHeld ?_
      simp only [Act.put, List.setIfInBounds_toArray, List.set_cons_zero, List.set_cons_succ]
      refine take_at 1 32 (.pointer (some ⟨g, 0, none⟩)) _ rfl rfl (by kernel_rfl) (by kernel_rfl) (by kernel_rfl) (fun _ _ _ h => h) (Or.inl ⟨by rfl, fun v hv => by clear hv; go_simp⟩) hHeld ?_
      simp only [Act.put, List.setIfInBounds_toArray, List.set_cons_zero, List.set_cons_succ]
      refine take_at 2 33 (.pointer (some ⟨g, 0, none⟩)) _ rfl rfl (by kernel_rfl) (by kernel_rfl) (by kernel_rfl) (fun _ _ _ h => h) (Or.inl ⟨by rfl, fun v hv => by clear hv; go_simp⟩) hHeld ?_
      simp only [Act.put, List.setIfInBounds_toArray, List.set_cons_zero, List.set_cons_succ]
      refine take_at 3 34 (.pointer (some ⟨g, 6, none⟩)) _ rfl rfl (by kernel_rfl) (by kernel_rfl) (by kernel_rfl) (fun _ _ _ h => h) (Or.inl ⟨by rfl, fun v hv => by clear hv; go_simp⟩) hHeld ?_
      simp only [Act.put, List.setIfInBounds_toArray, List.set_cons_zero, List.set_cons_succ]
      refine take_at 4 35 (.slice q n c) _ rfl rfl (by kernel_rfl) (by kernel_rfl) (by kernel_rfl) (fun _ _ _ h => h) (Or.inl ⟨by rfl, fun v hv => by have g0 := hv.1.cell 6; clear hv; go_simp⟩) hHeld ?_
      simp only [Act.put, List.setIfInBounds_toArray, List.set_cons_zero, List.set_cons_succ]
      refine take_at 5 36 (.int .i64 te) _ rfl rfl (by kernel_rfl) (by kernel_rfl) (by kernel_rfl) (fun _ _ _ h => h) (Or.inl ⟨by rfl, fun v hv => by clear hv; go_simp⟩) hHeld ?_
      simp only [Act.put, List.setIfInBounds_toArray, List.set_cons_zero, List.set_cons_succ]
      refine take_at 6 37 (.pointer (some ⟨w.heap.size, 3, none⟩)) _ rfl rfl (by kernel_rfl) (by kernel_rfl) (by kernel_rfl) (fun _ _ _ h => h) (Or.inl ⟨by rfl, fun v hv => by clear hv; go_simp⟩) hHeld ?_
      simp only [Act.put, List.setIfInBounds_toArray, List.set_cons_zero, List.set_cons_succ]
      refine take_at 7 38 (.int .i64 t.db) _ rfl rfl (by kernel_rfl) (by kernel_rfl) (by kernel_rfl) (fun _ _ _ h => h) (Or.inl ⟨by rfl, fun v hv => by have g0 := hv.2.cell 3; clear hv; go_simp⟩) hHeld ?_
      simp only [Act.put, List.setIfInBounds_toArray, List.set_cons_zero, List.set_cons_succ]
      refine wpAnyH_ready (rs := [8]) (by kernel_rfl) (by simp) (AllReadyH.cons rfl (fun K hK => ?_) AllReadyH.nil)
      rw [if_pos (by rfl)]
      refine wp_callOp 39 rfl (by clear hK; go_simp) HRE.out ?_
      rintro e w5 ⟨pz, lz, cz, z, pd, fz, rfl, hi5, hf5, hb5⟩
      obtain ⟨rfl, hz, hpd⟩ := hi5.got hdm HTM.out
      have HZF : Hid (deb.Fresh w5 (g + 1) pz lz cz z) := hf5.low (by show g + 1 ≤ w1.heap.size; have := H1g.out.lt; omega)
      have hT0 := (deb.sumD_pos (deb.mem_fits hdm.2)).1
      have hpd0 : 0 ≤ pd := by rw [hpd]; omega
      have hpd1 : pd ≤ 100000000 := by rw [hpd]; omega
      have HPD : Hid (pd = paid x t te m) := by show _ = _; rw [hpd]; unfold paid share; rw [← HBR.out]
      have HZV : Hid (z = deb.recK (rolled x m).ds (share t te) (rolled x m).ds.length) := by show _ = _; rw [hz]; unfold share; rw [← HBR.out]
      have HFE : Hid (t.ff + te * t.fb / 10000 = fee t te) := rfl
      clear hpd hz hT0 hi5 hf5
      have H2g : Hid (Blk w5 g #[.int .i64 y.me, .int .i64 y.rv, .int .i64 y.nx, .int .i64 y.mo, .int .i64 y.bo, .int .i64 y.fr, .slice q n c, .int .i64 0, .int .i64 0, .int .i64 0, .int .i64 0, .int .i64 0, .int .i64 0, .int .i64 0] 134) := (Blk.drew H1g.out 1).next hb5
      have H2t : Hid (Blk w5 (w.heap.size) #[.slice pt lt ct, .int .i64 t.ff, .int .i64 t.fb, .int .i64 t.db, .int .i64 t.al] 40) := Chg.keep (g := g) ((Chg.of (bel_drew (Below.refl _ _) 1)).trans (.of hb5)) H1t.out (by omega)
      have H2T : Hid (Came w5 pt lt ct t.ts) := came_chg H1T.out ((Chg.of (bel_drew (Below.refl _ _) 1)).trans (.of hb5)) HFAR.out
      have H2D : Hid (deb.Fresh w5 (g + 1) q n c y.ds) := fresh_chg H1D.out ((Chg.of (bel_drew (Below.refl _ _) 1)).trans (.of hb5))
      have H2C : Hid (Chg w w5 g) := H1C.out.trans ((Chg.of (bel_drew (Below.refl _ _) 1)).trans (.of hb5))
      clear H1C H1g H1t H1T H1D 
      refine ⟨_, rfl, hK.out _ _ ⟨H2g.out, H2t.out⟩ (fun hHeld => ?_)⟩
      clear hK K hb5 HRE
      simp only [Act.put, List.setIfInBounds_toArray, List.set_cons_zero, List.set_cons_succ]
      refine take_at 9 30 (.tuple #[.slice pz lz cz, .int .i64 pd, .int .i64 0]) _ rfl rfl (by kernel_rfl) (by kernel_rfl) (by kernel_rfl) (fun _ _ _ h => h) (Or.inl ⟨by rfl, fun v hv => by clear hv; go_simp⟩) hHeld ?_
      simp only [Act.put, List.setIfInBounds_toArray, List.set_cons_zero, List.set_cons_succ]
      refine take_at 10 40 (.slice pz lz cz) _ rfl rfl (by kernel_rfl) (by kernel_rfl) (by kernel_rfl) (fun _ _ _ h => h) (Or.inl ⟨by rfl, fun v hv => by clear hv; go_simp⟩) hHeld ?_
      simp only [Act.put, List.setIfInBounds_toArray, List.set_cons_zero, List.set_cons_succ]
      refine take_at 11 41 (.int .i64 pd) _ rfl rfl (by kernel_rfl) (by kernel_rfl) (by kernel_rfl) (fun _ _ _ h => h) (Or.inl ⟨by rfl, fun v hv => by clear hv; go_simp⟩) hHeld ?_
      simp only [Act.put, List.setIfInBounds_toArray, List.set_cons_zero, List.set_cons_succ]
      refine take_at 12 42 (.int .i64 0) _ rfl rfl (by kernel_rfl) (by kernel_rfl) (by kernel_rfl) (fun _ _ _ h => h) (Or.inl ⟨by rfl, fun v hv => by clear hv; go_simp⟩) hHeld ?_
      simp only [Act.put, List.setIfInBounds_toArray, List.set_cons_zero, List.set_cons_succ]
      refine take_at 13 10 (.slice pz lz cz) _ rfl rfl (by kernel_rfl) (by kernel_rfl) (by kernel_rfl) (fun _ _ _ h => h) (Or.inl ⟨by rfl, fun v hv => by clear hv; go_simp⟩) hHeld ?_
      simp only [Act.put, List.setIfInBounds_toArray, List.set_cons_zero, List.set_cons_succ]
      refine take_at 14 11 (.int .i64 pd) _ rfl rfl (by kernel_rfl) (by kernel_rfl) (by kernel_rfl) (fun _ _ _ h => h) (Or.inl ⟨by rfl, fun v hv => by clear hv; go_simp⟩) hHeld ?_
      simp only [Act.put, List.setIfInBounds_toArray, List.set_cons_zero, List.set_cons_succ]
      refine take_at 15 12 (.int .i64 0) _ rfl rfl (by kernel_rfl) (by kernel_rfl) (by kernel_rfl) (fun _ _ _ h => h) (Or.inl ⟨by rfl, fun v hv => by clear hv; go_simp⟩) hHeld ?_
      simp only [Act.put, List.setIfInBounds_toArray, List.set_cons_zero, List.set_cons_succ]
      refine wpAnyH_done (by kernel_rfl) ?_ _
      clear hHeld
      have qt2 : w5.cell? ⟨w.heap.size, 2, none⟩ = some (.int .i64 t.fb) := H2t.out.cell 2
      go_wp2_with fail
      refine (HPA.out _).mono ?_
      rintro e w6 ⟨rfl, hb6⟩
      have H3g := shN H2g hb6
      have H3t : Hid (Blk w6 (w.heap.size) #[.slice pt lt ct, .int .i64 t.ff, .int .i64 t.fb, .int .i64 t.db, .int .i64 t.al] 40) := Chg.keep (g := g) (.of hb6) H2t.out (by omega)
      have H3T : Hid (Came w6 pt lt ct t.ts) := came_chg H2T.out (.of hb6) HFAR.out
      have H3D : Hid (deb.Fresh w6 (g + 1) q n c y.ds) := fresh_chg H2D.out (.of hb6)
      have H3Z : Hid (deb.Fresh w6 (g + 1) pz lz cz z) := fresh_chg HZF.out (.of hb6)
      have H3C : Hid (Chg w w6 g) := H2C.out.trans (.of hb6)
      clear H2C H2g H2t H2T H2D HZF hb6 qt2 HPA
      generalize te * t.fb / 10000 = pq at *
      have hff := htok.1
      have HRS : Hid (te - pd - (t.ff + pq) = rest x t te m) := by show _ = _; unfold rest; rw [HPD.out, HFE.out]
      have HRH : Hid (tar.Right t.ts) := HT.out.1
      clear htok
      by_cases h6 : te - pd - (t.ff + pq) < 0
      · have d6 : decide (te - pd - (t.ff + pq) < 0) = true := decide_eq_true h6
        have HV : Hid (Or0 (SellIs x t te m) y bi0 19) := .inl ⟨by decide, .inr (.inl ⟨HRY.out, fun hh => by have := hh.2.1; rw [← HRS.out] at this; omega, rfl, rfl, rfl⟩)⟩
        have qt1 : w6.cell? ⟨w.heap.size, 1, none⟩ = some (.int .i64 t.ff) := H3t.out.cell 1
        go_wp2_with fail
        go_ret
        exact ⟨y, bi0, q, n, c, 19, rfl, HV.out, H3g.out, H3D.out, H3C.out⟩
      · have d6 : decide (te - pd - (t.ff + pq) < 0) = false := decide_eq_false h6
        have HMS : Hid (Calls Try.prog 99 #[.slice pt lt ct, .int .i64 y.bo, .int .i64 (te - pd - (t.ff + pq))] w6.drew fun e w' => tar.ThreePost w6.drew (tar.MostIs t.ts y.bo (te - pd - (t.ff + pq))) e w') := tar.kmost _ pt lt ct t.ts y.bo _ (H3T.out.below (bel_drew (Below.refl _ _) 1)) (tar.wf_mid hbo.1 (by omega)) (tar.wf_mid (by omega) (by omega))
        have HMM : Hid (tar.MayMost y.bo (te - pd - (t.ff + pq))) := ⟨hbo, by omega, by omega⟩
        have qt1 : w6.cell? ⟨w.heap.size, 1, none⟩ = some (.int .i64 t.ff) := H3t.out.cell 1
        go_wp2_with fail
        clear qt1
        refine wp_region_held_drew (S := fun v => Blk v (g) #[.int .i64 y.me, .int .i64 y.rv, .int .i64 y.nx, .int .i64 y.mo, .int .i64 y.bo, .int .i64 y.fr, .slice q n c, .int .i64 0, .int .i64 0, .int .i64 0, .int .i64 0, .int .i64 0, .int .i64 0, .int .i64 0] 134 ∧ Blk v (w.heap.size) #[.slice pt lt ct, .int .i64 t.ff, .int .i64 t.fb, .int .i64 t.db, .int .i64 t.al] 40) (by kernel_rfl) ⟨Blk.drew H3g.out 1, Blk.drew H3t.out 1⟩ (fun hHeld => ?_)
        refine take_at 0 62 (.pointer (some ⟨w.heap.size, 0, none⟩)) _ rfl rfl (by kernel_rfl) (by kernel_rfl) (by kernel_rfl) (fun _ _ _ h => h) (Or.inl ⟨by rfl, fun v hv => by clear hv; go_simp⟩) hHeld ?_
        simp only [Act.put, List.setIfInBounds_toArray, List.set_cons_zero, List.set_cons_succ]
        refine take_at 1 63 (.slice pt lt ct) _ rfl rfl (by kernel_rfl) (by kernel_rfl) (by kernel_rfl) (fun _ _ _ h => h) (Or.inl ⟨by rfl, fun v hv => by have g0 := hv.2.cell 0; clear hv; go_simp⟩) hHeld ?_
        simp only [Act.put, List.setIfInBounds_toArray, List.set_cons_zero, List.set_cons_succ]
        refine take_at 2 64 (.pointer (some ⟨g, 0, none⟩)) _ rfl rfl (by kernel_rfl) (by kernel_rfl) (by kernel_rfl) (fun _ _ _ h => h) (Or.inl ⟨by rfl, fun v hv => by clear hv; go_simp⟩) hHeld ?_
        simp only [Act.put, List.setIfInBounds_toArray, List.set_cons_zero, List.set_cons_succ]
        refine take_at 3 65 (.pointer (some ⟨g, 0, none⟩)) _ rfl rfl (by kernel_rfl) (by kernel_rfl) (by kernel_rfl) (fun _ _ _ h => h) (Or.inl ⟨by rfl, fun v hv => by clear hv; go_simp⟩) hHeld ?_
        simp only [Act.put, List.setIfInBounds_toArray, List.set_cons_zero, List.set_cons_succ]
        refine take_at 4 66 (.pointer (some ⟨g, 0, none⟩)) _ rfl rfl (by kernel_rfl) (by kernel_rfl) (by kernel_rfl) (fun _ _ _ h => h) (Or.inl ⟨by rfl, fun v hv => by clear hv; go_simp⟩) hHeld ?_
        simp only [Act.put, List.setIfInBounds_toArray, List.set_cons_zero, List.set_cons_succ]
        refine take_at 5 67 (.pointer (some ⟨g, 4, none⟩)) _ rfl rfl (by kernel_rfl) (by kernel_rfl) (by kernel_rfl) (fun _ _ _ h => h) (Or.inl ⟨by rfl, fun v hv => by clear hv; go_simp⟩) hHeld ?_
        simp only [Act.put, List.setIfInBounds_toArray, List.set_cons_zero, List.set_cons_succ]
        refine take_at 6 68 (.int .i64 y.bo) _ rfl rfl (by kernel_rfl) (by kernel_rfl) (by kernel_rfl) (fun _ _ _ h => h) (Or.inl ⟨by rfl, fun v hv => by have g0 := hv.1.cell 4; clear hv; go_simp⟩) hHeld ?_
        simp only [Act.put, List.setIfInBounds_toArray, List.set_cons_zero, List.set_cons_succ]
        refine take_at 7 69 (.int .i64 (te - pd - (t.ff + pq))) _ rfl rfl (by kernel_rfl) (by kernel_rfl) (by kernel_rfl) (fun _ _ _ h => h) (Or.inl ⟨by rfl, fun v hv => by clear hv; go_simp⟩) hHeld ?_
        simp only [Act.put, List.setIfInBounds_toArray, List.set_cons_zero, List.set_cons_succ]
        refine wpAnyH_ready (rs := [8]) (by kernel_rfl) (by simp) (AllReadyH.cons rfl (fun K hK => ?_) AllReadyH.nil)
        rw [if_pos (by rfl)]
        refine wp_callOp 70 rfl (by clear hK; go_simp) HMS.out ?_
        rintro e w7 ⟨u, pc, fm, rfl, hi7, hb7⟩
        obtain ⟨rfl, hmo7, hpc⟩ := hi7.got HRH.out HMM.out
        have hu0 := hmo7.1.1
        have hu1 : u ≤ 2097151 := by have := hmo7.1.2; unfold tar.Top at this; omega
        have hu2 : y.bo + u ≤ 10000000 := by have := hmo7.1.2; unfold tar.Top at this; omega
        have hcb := tar.cost_bd HRH.out y.bo (y.bo + u) hbo.1 (by omega) hu2
        rw [← hpc] at hcb
        have hpc1 : pc ≤ (te - pd - (t.ff + pq)) := by rw [hpc]; exact hmo7.2.1
        have hpc0 : 0 ≤ pc := by omega
        have HMO : Hid (tar.MostOf t.ts (rolled x m).bo (rest x t te m) u) := by show tar.MostOf _ _ _ _; rw [← HBR.out, ← HRS.out]; exact hmo7
        have HPC : Hid (pc = tar.cost t.ts (rolled x m).bo ((rolled x m).bo + u)) := by show _ = _; rw [← HBR.out]; exact hpc
        have HONE : Hid (∀ v, tar.MostOf t.ts (rolled x m).bo (rest x t te m) v → v = u) := fun v hv => by
          have hbb : 0 ≤ (rolled x m).bo := by rw [← HBR.out]; exact hbo.1
          exact hv.one HRH.out hbb HMO.out
        clear hmo7 hpc hcb hi7
        have H4g : Hid (Blk w7 g #[.int .i64 y.me, .int .i64 y.rv, .int .i64 y.nx, .int .i64 y.mo, .int .i64 y.bo, .int .i64 y.fr, .slice q n c, .int .i64 0, .int .i64 0, .int .i64 0, .int .i64 0, .int .i64 0, .int .i64 0, .int .i64 0] 134) := (Blk.drew H3g.out 1).next hb7
        have H4t : Hid (Blk w7 (w.heap.size) #[.slice pt lt ct, .int .i64 t.ff, .int .i64 t.fb, .int .i64 t.db, .int .i64 t.al] 40) := Chg.keep (g := g) ((Chg.of (bel_drew (Below.refl _ _) 1)).trans (.of hb7)) H3t.out (by omega)
        have H4T : Hid (Came w7 pt lt ct t.ts) := came_chg H3T.out ((Chg.of (bel_drew (Below.refl _ _) 1)).trans (.of hb7)) HFAR.out
        have H4D : Hid (deb.Fresh w7 (g + 1) q n c y.ds) := fresh_chg H3D.out ((Chg.of (bel_drew (Below.refl _ _) 1)).trans (.of hb7))
        have H4Z : Hid (deb.Fresh w7 (g + 1) pz lz cz z) := fresh_chg H3Z.out ((Chg.of (bel_drew (Below.refl _ _) 1)).trans (.of hb7))
        have H4C : Hid (Chg w w7 g) := H3C.out.trans ((Chg.of (bel_drew (Below.refl _ _) 1)).trans (.of hb7))
        clear H3C H3g H3t H3T H3D H3Z 
        refine ⟨_, rfl, hK.out _ _ ⟨H4g.out, H4t.out⟩ (fun hHeld => ?_)⟩
        clear hK K hb7 HMS
        simp only [Act.put, List.setIfInBounds_toArray, List.set_cons_zero, List.set_cons_succ]
        refine take_at 9 61 (.tuple #[.int .i64 u, .int .i64 pc, .int .i64 0]) _ rfl rfl (by kernel_rfl) (by kernel_rfl) (by kernel_rfl) (fun _ _ _ h => h) (Or.inl ⟨by rfl, fun v hv => by clear hv; go_simp⟩) hHeld ?_
        simp only [Act.put, List.setIfInBounds_toArray, List.set_cons_zero, List.set_cons_succ]
        refine take_at 10 71 (.int .i64 u) _ rfl rfl (by kernel_rfl) (by kernel_rfl) (by kernel_rfl) (fun _ _ _ h => h) (Or.inl ⟨by rfl, fun v hv => by clear hv; go_simp⟩) hHeld ?_
        simp only [Act.put, List.setIfInBounds_toArray, List.set_cons_zero, List.set_cons_succ]
        refine take_at 11 72 (.int .i64 pc) _ rfl rfl (by kernel_rfl) (by kernel_rfl) (by kernel_rfl) (fun _ _ _ h => h) (Or.inl ⟨by rfl, fun v hv => by clear hv; go_simp⟩) hHeld ?_
        simp only [Act.put, List.setIfInBounds_toArray, List.set_cons_zero, List.set_cons_succ]
        refine take_at 12 73 (.int .i64 0) _ rfl rfl (by kernel_rfl) (by kernel_rfl) (by kernel_rfl) (fun _ _ _ h => h) (Or.inl ⟨by rfl, fun v hv => by clear hv; go_simp⟩) hHeld ?_
        simp only [Act.put, List.setIfInBounds_toArray, List.set_cons_zero, List.set_cons_succ]
        refine take_at 13 17 (.int .i64 u) _ rfl rfl (by kernel_rfl) (by kernel_rfl) (by kernel_rfl) (fun _ _ _ h => h) (Or.inl ⟨by rfl, fun v hv => by clear hv; go_simp⟩) hHeld ?_
        simp only [Act.put, List.setIfInBounds_toArray, List.set_cons_zero, List.set_cons_succ]
        refine take_at 14 18 (.int .i64 pc) _ rfl rfl (by kernel_rfl) (by kernel_rfl) (by kernel_rfl) (fun _ _ _ h => h) (Or.inl ⟨by rfl, fun v hv => by clear hv; go_simp⟩) hHeld ?_
        simp only [Act.put, List.setIfInBounds_toArray, List.set_cons_zero, List.set_cons_succ]
        refine take_at 15 19 (.int .i64 0) _ rfl rfl (by kernel_rfl) (by kernel_rfl) (by kernel_rfl) (fun _ _ _ h => h) (Or.inl ⟨by rfl, fun v hv => by clear hv; go_simp⟩) hHeld ?_
        simp only [Act.put, List.setIfInBounds_toArray, List.set_cons_zero, List.set_cons_succ]
        refine wpAnyH_done (by kernel_rfl) ?_ _
        clear hHeld
        by_cases h7 : u = 0
        · have d7 : (u == 0) = true := by simpa using h7
          have HV : Hid (Or0 (SellIs x t te m) y bi0 19) := .inl ⟨by decide, .inr (.inl ⟨HRY.out, fun hh => hh.2.2 (by rw [← h7]; exact HMO.out), rfl, rfl, rfl⟩)⟩
          clear h7
          go_wp2_with fail
          go_ret
          exact ⟨y, bi0, q, n, c, 19, rfl, HV.out, H4g.out, H4D.out, H4C.out⟩
        · have d7 : (u == 0) = false := by simpa using h7
          have HTE : Hid (TenOk x t te m) := ⟨h5, by rw [← HRS.out]; omega, fun hh => h7 (HONE.out 0 hh).symm⟩
          clear h7
          go_wp2_with (first | (refine wp_letS rfl 53 _ _ rfl g 6 rfl pz lz cz rfl (by kernel_rfl) #[.int .i64 y.me, .int .i64 y.rv, .int .i64 y.nx, .int .i64 y.mo, .int .i64 y.bo, .int .i64 y.fr, .slice q n c, .int .i64 0, .int .i64 0, .int .i64 0, .int .i64 0, .int .i64 0, .int .i64 0, .int .i64 0] 134 H4g.out (by simp) ?_) | fail)
          intro W8 hU
          have H5g : Hid (Blk W8 g #[.int .i64 y.me, .int .i64 y.rv, .int .i64 y.nx, .int .i64 y.mo, .int .i64 y.bo, .int .i64 y.fr, .slice pz lz cz, .int .i64 0, .int .i64 0, .int .i64 0, .int .i64 0, .int .i64 0, .int .i64 0, .int .i64 0] 134) := hU.blk
          have H5t : Hid (Blk W8 (w.heap.size) #[.slice pt lt ct, .int .i64 t.ff, .int .i64 t.fb, .int .i64 t.db, .int .i64 t.al] 40) := Chg.keep (g := g) (.upd hU) H4t.out (by omega)
          have H5Z : Hid (deb.Fresh W8 (g + 1) pz lz cz z) := fresh_chg H4Z.out (.upd hU)
          have H5C : Hid (Chg w W8 g) := H4C.out.trans (.upd hU)
          clear H4C H4g H4t H4Z hU d7
          have qg4 : W8.cell? ⟨g, 4, none⟩ = some (.int .i64 y.bo) := H5g.out.cell 4
          have hwb : IntKind.i64.wrap (y.bo + u) = y.bo + u := by rw [IntKind.wrap_i64]; omega
          go_wp2_with (first | (refine wp_let1 rfl 3 _ _ rfl g 4 rfl .i64 (y.bo + u) rfl (by kernel_rfl) #[.int .i64 y.me, .int .i64 y.rv, .int .i64 y.nx, .int .i64 y.mo, .int .i64 y.bo, .int .i64 y.fr, .slice pz lz cz, .int .i64 0, .int .i64 0, .int .i64 0, .int .i64 0, .int .i64 0, .int .i64 0, .int .i64 0] 134 H5g.out (by simp) ?_) | fail)
          intro W9 hU
          have H6g : Hid (Blk W9 g #[.int .i64 y.me, .int .i64 y.rv, .int .i64 y.nx, .int .i64 y.mo, .int .i64 (y.bo + u), .int .i64 y.fr, .slice pz lz cz, .int .i64 0, .int .i64 0, .int .i64 0, .int .i64 0, .int .i64 0, .int .i64 0, .int .i64 0] 134) := hU.blk
          have H6t : Hid (Blk W9 (w.heap.size) #[.slice pt lt ct, .int .i64 t.ff, .int .i64 t.fb, .int .i64 t.db, .int .i64 t.al] 40) := Chg.keep (g := g) (.upd hU) H5t.out (by omega)
          have H6Z : Hid (deb.Fresh W9 (g + 1) pz lz cz z) := fresh_chg H5Z.out (.upd hU)
          have H6C : Hid (Chg w W9 g) := H5C.out.trans (.upd hU)
          clear H5C H5g H5t H5Z hU qg4 hwb
          have hwd : IntKind.i64.wrap ((te - pd - (t.ff + pq)) - pc) = (te - pd - (t.ff + pq)) - pc := by rw [IntKind.wrap_i64]; omega
          have HPUT : Hid (putAll #[.int .i64 y.me, .int .i64 y.rv, .int .i64 y.nx, .int .i64 y.mo, .int .i64 (y.bo + u), .int .i64 y.fr, .slice pz lz cz, .int .i64 0, .int .i64 0, .int .i64 0, .int .i64 0, .int .i64 0, .int .i64 0, .int .i64 0] 7 (#[.int .i64 0, .int .i64 te, .int .i64 pd, .int .i64 (t.ff + pq), .int .i64 pc, .int .i64 ((te - pd - (t.ff + pq)) - pc), .int .i64 u] : Array Value).toList = #[.int .i64 y.me, .int .i64 y.rv, .int .i64 y.nx, .int .i64 y.mo, .int .i64 (y.bo + u), .int .i64 y.fr, .slice pz lz cz, .int .i64 0, .int .i64 te, .int .i64 pd, .int .i64 (t.ff + pq), .int .i64 pc, .int .i64 ((te - pd - (t.ff + pq)) - pc), .int .i64 u]) := by show _ = _; kernel_rfl
          go_wp2_with (first | (refine wp_let rfl 23 _ _ rfl g 7 rfl (.agg #[.int .i64 0, .int .i64 te, .int .i64 pd, .int .i64 (t.ff + pq), .int .i64 pc, .int .i64 ((te - pd - (t.ff + pq)) - pc), .int .i64 u]) rfl #[.int .i64 0, .int .i64 te, .int .i64 pd, .int .i64 (t.ff + pq), .int .i64 pc, .int .i64 ((te - pd - (t.ff + pq)) - pc), .int .i64 u] rfl (by kernel_rfl) (by simp [Value.oneCell']) #[.int .i64 y.me, .int .i64 y.rv, .int .i64 y.nx, .int .i64 y.mo, .int .i64 (y.bo + u), .int .i64 y.fr, .slice pz lz cz, .int .i64 0, .int .i64 0, .int .i64 0, .int .i64 0, .int .i64 0, .int .i64 0, .int .i64 0] 134 H6g.out (by simp) #[.int .i64 y.me, .int .i64 y.rv, .int .i64 y.nx, .int .i64 y.mo, .int .i64 (y.bo + u), .int .i64 y.fr, .slice pz lz cz, .int .i64 0, .int .i64 te, .int .i64 pd, .int .i64 (t.ff + pq), .int .i64 pc, .int .i64 ((te - pd - (t.ff + pq)) - pc), .int .i64 u] HPUT.out ?_) | fail)
          intro WA hU
          have H7g : Hid (Blk WA g #[.int .i64 y.me, .int .i64 y.rv, .int .i64 y.nx, .int .i64 y.mo, .int .i64 (y.bo + u), .int .i64 y.fr, .slice pz lz cz, .int .i64 0, .int .i64 te, .int .i64 pd, .int .i64 (t.ff + pq), .int .i64 pc, .int .i64 ((te - pd - (t.ff + pq)) - pc), .int .i64 u] 134) := hU.blk
          have H7t : Hid (Blk WA (w.heap.size) #[.slice pt lt ct, .int .i64 t.ff, .int .i64 t.fb, .int .i64 t.db, .int .i64 t.al] 40) := Chg.keep (g := g) (.upd hU) H6t.out (by omega)
          have H7Z : Hid (deb.Fresh WA (g + 1) pz lz cz z) := fresh_chg H6Z.out (.upd hU)
          have H7C : Hid (Chg w WA g) := H6C.out.trans (.upd hU)
          clear H6C H6g H6t H6Z hU hwd
          have HSV : Hid (⟨y.me, y.rv, y.nx + 1, y.mo, y.bo + u, y.fr, z⟩ = sold x t te m u) := by
            show _ = _
            unfold sold
            rw [HZV.out, ← HBR.out, HBS.out.1, HBS.out.2.1, HBS.out.2.2.1, HBS.out.2.2.2.1, HBS.out.2.2.2.2]
          have HBV : Hid (⟨y.nx, te, pd, (t.ff + pq), pc, (te - pd - (t.ff + pq)) - pc, u⟩ = bill x t te m u) := by
            show _ = _
            unfold bill
            rw [← HPC.out, ← HRS.out, ← HPD.out, ← HFE.out, HYN.out]
          have HNU : Hid (Calls Try.prog 100 #[.pointer (some ⟨g, 0, none⟩)] WA fun e w' => NumPost WA g ⟨y.me, y.rv, y.nx, y.mo, y.bo + u, y.fr, z⟩ ⟨0, te, pd, (t.ff + pq), pc, (te - pd - (t.ff + pq)) - pc, u⟩ pz lz cz e w') := pnum g ⟨y.me, y.rv, y.nx, y.mo, y.bo + u, y.fr, z⟩ ⟨0, te, pd, (t.ff + pq), pc, (te - pd - (t.ff + pq)) - pc, u⟩ pz lz cz WA H7g.out hyx
          go_wp2_with fail
          refine HNU.out.mono ?_
          rintro e wN ⟨hcN, ⟨hx, rfl, hiN⟩ | ⟨hx, rfl, hiN⟩⟩
          · have HV : Hid (Or0 (SellIs x t te m) ⟨y.me, y.rv, y.nx, y.mo, y.bo + u, y.fr, z⟩ ⟨0, te, pd, (t.ff + pq), pc, (te - pd - (t.ff + pq)) - pc, u⟩ 20) := .inl ⟨by decide, .inr (.inr (.inl ⟨HRY.out, HTE.out, by rw [← HYN.out]; exact hx, rfl, rfl, rfl⟩))⟩
            have HDN := fresh_chg H7Z.out hcN
            have HCN := H7C.out.trans hcN
            clear HNU hx
            go_wp2_with fail
            go_ret
            exact ⟨⟨y.me, y.rv, y.nx, y.mo, y.bo + u, y.fr, z⟩, ⟨0, te, pd, (t.ff + pq), pc, (te - pd - (t.ff + pq)) - pc, u⟩, pz, lz, cz, 20, rfl, HV.out, hiN, HDN, HCN⟩
          · have HV : Hid (Or0 (SellIs x t te m) ⟨y.me, y.rv, y.nx + 1, y.mo, y.bo + u, y.fr, z⟩ ⟨y.nx, te, pd, (t.ff + pq), pc, (te - pd - (t.ff + pq)) - pc, u⟩ 0) := .inr ⟨rfl, .inr (.inr (.inr ⟨HRY.out, HTE.out, by rw [← HYN.out]; exact hx, rfl, u, HMO.out, HSV.out, HBV.out⟩))⟩
            have HDN := fresh_chg H7Z.out hcN
            have HCN := H7C.out.trans hcN
            clear HNU hx
            go_wp2_with fail
            go_ret
            exact ⟨⟨y.me, y.rv, y.nx + 1, y.mo, y.bo + u, y.fr, z⟩, ⟨y.nx, te, pd, (t.ff + pq), pc, (te - pd - (t.ff + pq)) - pc, u⟩, pz, lz, cz, 0, rfl, HV.out, hiN, HDN, HCN⟩
    · rw [decide_eq_false h5] at HIT
      have HV : Hid (Or0 (SellIs x t te m) y bi0 19) := .inl ⟨by decide, .inr (.inl ⟨HRY.out, fun hh => h5 hh.1, rfl, rfl, rfl⟩)⟩
      clear h5
      go_wp2_with fail
      refine (HIT.out _).mono ?_
      rintro e wz ⟨rfl, hwz⟩
      subst wz
      go_wp2_with fail
      go_ret
      exact ⟨y, bi0, q, n, c, 19, rfl, HV.out, H1g.out, H1D.out, H1C.out⟩
  · skip
    have d0 : (f != 0) = true := by simpa using h0
    have HV : Hid (Or0 (SellIs x t te m) y bi0 f) := by
      refine .inl ⟨h0, .inl ⟨?_, rfl, rfl⟩⟩
      rcases hr with ⟨h1, h2, _⟩ | ⟨h1, h2, h3, _⟩ | ⟨_, _, _, h1⟩
      · exact .inr (.inl ⟨HM.out, h1, h2⟩)
      · exact .inr (.inr ⟨HM.out, h1, h2, h3⟩)
      · exact absurd h1 h0
    clear hr h0
    go_wp2_with fail
    go_ret
    exact ⟨y, bi0, q, n, c, f, rfl, HV.out, H1g.out, H1D.out, H1C.out⟩

end Go.Proofs.Ytfhlokjpdkmdjaa.acc

/- account.Sell: what is asked of it. -/
namespace Go.Proofs.Ytfhlokjpdkmdjaa.acc
open Go.Proofs.Ytfhlokjpdkmdjaa.tar (Du)
open Go.RowKit

def KcSell : Prop := ∀ (W : World) (x : Ac) (p : Option Addr) (len cap : Nat) (t : Tm) (pt : Option Addr) (lt ct : Nat) (te m : Int), ACame W x p len cap → TCame W t pt lt ct → (Lit.int .i64 te).wf = true → (Lit.int .i64 m).wf = true → Calls Try.prog 78 #[x.v p len cap, t.v pt lt ct, .int .i64 te, .int .i64 m] W fun e w' => BPost W (SellIs x t te m) e w'

end Go.Proofs.Ytfhlokjpdkmdjaa.acc

/- account.Sell. -/
namespace Go.Proofs.Ytfhlokjpdkmdjaa.acc
open Go.Proofs.Ytfhlokjpdkmdjaa.tar (Du du0 Came RowD Ld PairT)
open Go.RowKit
set_option maxRecDepth 100000
set_option linter.unusedVariables false
set_option linter.unusedSimpArgs false

set_option maxHeartbeats 1000000 in
theorem psell1 (B0 B1 B2 g : Nat) (x : Ac) (p : Option Addr) (len cap : Nat) (t : Tm) (pt : Option Addr) (lt ct : Nat) (te m : Int) (w : World) (hB0 : Blk w B0 #[.slice pt lt ct, .int .i64 t.ff, .int .i64 t.fb, .int .i64 t.db, .int .i64 t.al] 40) (hB1 : Blk w B1 #[.int .i64 te] 3) (hB2 : Blk w B2 #[.int .i64 m] 3) (hw : Blk w g (wcs x bi0 p len cap) 134) (hd : deb.Fresh w (g + 1) p len cap x.ds) (ha : AMay x) (ht : Came w pt lt ct t.ts) (hwf : wf4 t) (hfar : Far pt lt g) : Calls Try.prog 87 #[.pointer (some ⟨g, 0, none⟩), .pointer (some ⟨B0, 0, none⟩), .pointer (some ⟨B1, 0, none⟩), .pointer (some ⟨B2, 0, none⟩)] w fun e w' => WPost w g (Or0 (SellIs x t te m)) e w' := by
  have HIN : Hid (Calls Try.prog 88 #[.pointer (some ⟨g, 0, none⟩), .agg #[.slice pt lt ct, .int .i64 t.ff, .int .i64 t.fb, .int .i64 t.db, .int .i64 t.al], .int .i64 te, .int .i64 m] w fun e w' => WPost w g (Or0 (SellIs x t te m)) e w') := (psell g x p len cap t pt lt ct te m w hw hd ha ht hwf hfar).mono fun e w' h => h.w (Nat.le_of_lt hw.lt)
  have HK0 : Hid (Blk w B0 #[.slice pt lt ct, .int .i64 t.ff, .int .i64 t.fb, .int .i64 t.db, .int .i64 t.al] 40) := hB0
  have HK1 : Hid (Blk w B1 #[.int .i64 te] 3) := hB1
  have qB1 : w.cell? ⟨B1, 0, none⟩ = some (.int .i64 te) := hB1.cell 0
  have HK2 : Hid (Blk w B2 #[.int .i64 m] 3) := hB2
  have qB2 : w.cell? ⟨B2, 0, none⟩ = some (.int .i64 m) := hB2.cell 0
  clear hw ha hd ht hwf hfar
  go_enter Try.func87, Try.ntmps87
  go_wp2_with (first | (refine wp_whole rfl 40 _ rfl _ rfl 40 _ _ HK0.out Try.underlying40 rfl (by kernel_rfl) ?_) | fail)
  refine HIN.out.mono ?_
  rintro e w1 hx
  have HX : Hid (WPost w g (Or0 (SellIs x t te m)) e w1) := hx
  obtain ⟨y, b, q, n, c, f, rfl, _⟩ := hx
  clear HIN
  go_wp2_with fail
  go_ret
  exact HX.out
set_option maxHeartbeats 4000000 in
theorem ksell : KcSell := by
  intro w x p len cap t pt lt ct te m ha ht hte hm
  unfold Ac.v Ac.cs Tm.v
  have H0d : Hid (Blk ((((((w.alloc (.cells #[.int .i64 x.me, .int .i64 x.rv, .int .i64 x.nx, .int .i64 x.mo, .int .i64 x.bo, .int .i64 x.fr, .slice p len cap] 55)).alloc (.cells #[.slice pt lt ct, .int .i64 t.ff, .int .i64 t.fb, .int .i64 t.db, .int .i64 t.al] 40)).alloc (.cells #[.int .i64 te] 3)).alloc (.cells #[.int .i64 m] 3)).alloc (.cells #[.int .i64 0, .int .i64 0, .int .i64 0, .int .i64 0, .int .i64 0, .int .i64 0, .slice none 0 0] 55)).alloc (.cells #[.int .i64 0, .int .i64 0, .int .i64 0, .int .i64 0, .int .i64 0, .int .i64 0, .int .i64 0] 23)) (w.heap.size) #[.int .i64 x.me, .int .i64 x.rv, .int .i64 x.nx, .int .i64 x.mo, .int .i64 x.bo, .int .i64 x.fr, .slice p len cap] 55) := (((((Blk.new w _ _).alloc _).alloc _).alloc _).alloc _).alloc _
  have H0t : Hid (Blk ((((((w.alloc (.cells #[.int .i64 x.me, .int .i64 x.rv, .int .i64 x.nx, .int .i64 x.mo, .int .i64 x.bo, .int .i64 x.fr, .slice p len cap] 55)).alloc (.cells #[.slice pt lt ct, .int .i64 t.ff, .int .i64 t.fb, .int .i64 t.db, .int .i64 t.al] 40)).alloc (.cells #[.int .i64 te] 3)).alloc (.cells #[.int .i64 m] 3)).alloc (.cells #[.int .i64 0, .int .i64 0, .int .i64 0, .int .i64 0, .int .i64 0, .int .i64 0, .slice none 0 0] 55)).alloc (.cells #[.int .i64 0, .int .i64 0, .int .i64 0, .int .i64 0, .int .i64 0, .int .i64 0, .int .i64 0] 23)) (w.heap.size + 1) #[.slice pt lt ct, .int .i64 t.ff, .int .i64 t.fb, .int .i64 t.db, .int .i64 t.al] 40) := ((((Blk.new1 w _ _ _).alloc _).alloc _).alloc _).alloc _
  have H0e : Hid (Blk ((((((w.alloc (.cells #[.int .i64 x.me, .int .i64 x.rv, .int .i64 x.nx, .int .i64 x.mo, .int .i64 x.bo, .int .i64 x.fr, .slice p len cap] 55)).alloc (.cells #[.slice pt lt ct, .int .i64 t.ff, .int .i64 t.fb, .int .i64 t.db, .int .i64 t.al] 40)).alloc (.cells #[.int .i64 te] 3)).alloc (.cells #[.int .i64 m] 3)).alloc (.cells #[.int .i64 0, .int .i64 0, .int .i64 0, .int .i64 0, .int .i64 0, .int .i64 0, .slice none 0 0] 55)).alloc (.cells #[.int .i64 0, .int .i64 0, .int .i64 0, .int .i64 0, .int .i64 0, .int .i64 0, .int .i64 0] 23)) (w.heap.size + 1 + 1) #[.int .i64 te] 3) := (((Blk.new2 w _ _ _ _).alloc _).alloc _).alloc _
  have H0m : Hid (Blk ((((((w.alloc (.cells #[.int .i64 x.me, .int .i64 x.rv, .int .i64 x.nx, .int .i64 x.mo, .int .i64 x.bo, .int .i64 x.fr, .slice p len cap] 55)).alloc (.cells #[.slice pt lt ct, .int .i64 t.ff, .int .i64 t.fb, .int .i64 t.db, .int .i64 t.al] 40)).alloc (.cells #[.int .i64 te] 3)).alloc (.cells #[.int .i64 m] 3)).alloc (.cells #[.int .i64 0, .int .i64 0, .int .i64 0, .int .i64 0, .int .i64 0, .int .i64 0, .slice none 0 0] 55)).alloc (.cells #[.int .i64 0, .int .i64 0, .int .i64 0, .int .i64 0, .int .i64 0, .int .i64 0, .int .i64 0] 23)) (w.heap.size + 1 + 1 + 1) #[.int .i64 m] 3) := ((Blk.new3 w _ _ _ _ _).alloc _).alloc _
  have H0r : Hid (Blk ((((((w.alloc (.cells #[.int .i64 x.me, .int .i64 x.rv, .int .i64 x.nx, .int .i64 x.mo, .int .i64 x.bo, .int .i64 x.fr, .slice p len cap] 55)).alloc (.cells #[.slice pt lt ct, .int .i64 t.ff, .int .i64 t.fb, .int .i64 t.db, .int .i64 t.al] 40)).alloc (.cells #[.int .i64 te] 3)).alloc (.cells #[.int .i64 m] 3)).alloc (.cells #[.int .i64 0, .int .i64 0, .int .i64 0, .int .i64 0, .int .i64 0, .int .i64 0, .slice none 0 0] 55)).alloc (.cells #[.int .i64 0, .int .i64 0, .int .i64 0, .int .i64 0, .int .i64 0, .int .i64 0, .int .i64 0] 23)) (w.heap.size + 1 + 1 + 1 + 1) #[.int .i64 0, .int .i64 0, .int .i64 0, .int .i64 0, .int .i64 0, .int .i64 0, .slice none 0 0] 55) := (blk_new4 w _ _ _ _ _ _).alloc _
  have H0l : Hid (Blk ((((((w.alloc (.cells #[.int .i64 x.me, .int .i64 x.rv, .int .i64 x.nx, .int .i64 x.mo, .int .i64 x.bo, .int .i64 x.fr, .slice p len cap] 55)).alloc (.cells #[.slice pt lt ct, .int .i64 t.ff, .int .i64 t.fb, .int .i64 t.db, .int .i64 t.al] 40)).alloc (.cells #[.int .i64 te] 3)).alloc (.cells #[.int .i64 m] 3)).alloc (.cells #[.int .i64 0, .int .i64 0, .int .i64 0, .int .i64 0, .int .i64 0, .int .i64 0, .slice none 0 0] 55)).alloc (.cells #[.int .i64 0, .int .i64 0, .int .i64 0, .int .i64 0, .int .i64 0, .int .i64 0, .int .i64 0] 23)) (w.heap.size + 1 + 1 + 1 + 1 + 1) #[.int .i64 0, .int .i64 0, .int .i64 0, .int .i64 0, .int .i64 0, .int .i64 0, .int .i64 0] 23) := blk_new5 w _ _ _ _ _ _ _
  have H0B : Hid (Below w.heap.size w ((((((w.alloc (.cells #[.int .i64 x.me, .int .i64 x.rv, .int .i64 x.nx, .int .i64 x.mo, .int .i64 x.bo, .int .i64 x.fr, .slice p len cap] 55)).alloc (.cells #[.slice pt lt ct, .int .i64 t.ff, .int .i64 t.fb, .int .i64 t.db, .int .i64 t.al] 40)).alloc (.cells #[.int .i64 te] 3)).alloc (.cells #[.int .i64 m] 3)).alloc (.cells #[.int .i64 0, .int .i64 0, .int .i64 0, .int .i64 0, .int .i64 0, .int .i64 0, .slice none 0 0] 55)).alloc (.cells #[.int .i64 0, .int .i64 0, .int .i64 0, .int .i64 0, .int .i64 0, .int .i64 0, .int .i64 0] 23))) := ((((((Below.refl w.heap.size w).alloc (by simp) _).alloc (by simp) _).alloc (by simp; omega) _).alloc (by simp; omega) _).alloc (by simp; omega) _).alloc (by simp; omega) _
  have H0R : Hid (Came ((((((w.alloc (.cells #[.int .i64 x.me, .int .i64 x.rv, .int .i64 x.nx, .int .i64 x.mo, .int .i64 x.bo, .int .i64 x.fr, .slice p len cap] 55)).alloc (.cells #[.slice pt lt ct, .int .i64 t.ff, .int .i64 t.fb, .int .i64 t.db, .int .i64 t.al] 40)).alloc (.cells #[.int .i64 te] 3)).alloc (.cells #[.int .i64 m] 3)).alloc (.cells #[.int .i64 0, .int .i64 0, .int .i64 0, .int .i64 0, .int .i64 0, .int .i64 0, .slice none 0 0] 55)).alloc (.cells #[.int .i64 0, .int .i64 0, .int .i64 0, .int .i64 0, .int .i64 0, .int .i64 0, .int .i64 0] 23)) p len cap x.ds) := ha.ds.below H0B.out
  have hs0 : w.heap.size + 1 + 1 + 1 + 1 + 1 < ((((((w.alloc (.cells #[.int .i64 x.me, .int .i64 x.rv, .int .i64 x.nx, .int .i64 x.mo, .int .i64 x.bo, .int .i64 x.fr, .slice p len cap] 55)).alloc (.cells #[.slice pt lt ct, .int .i64 t.ff, .int .i64 t.fb, .int .i64 t.db, .int .i64 t.al] 40)).alloc (.cells #[.int .i64 te] 3)).alloc (.cells #[.int .i64 m] 3)).alloc (.cells #[.int .i64 0, .int .i64 0, .int .i64 0, .int .i64 0, .int .i64 0, .int .i64 0, .slice none 0 0] 55)).alloc (.cells #[.int .i64 0, .int .i64 0, .int .i64 0, .int .i64 0, .int .i64 0, .int .i64 0, .int .i64 0] 23)).heap.size := H0l.out.lt
  generalize hWW : ((((((w.alloc (.cells #[.int .i64 x.me, .int .i64 x.rv, .int .i64 x.nx, .int .i64 x.mo, .int .i64 x.bo, .int .i64 x.fr, .slice p len cap] 55)).alloc (.cells #[.slice pt lt ct, .int .i64 t.ff, .int .i64 t.fb, .int .i64 t.db, .int .i64 t.al] 40)).alloc (.cells #[.int .i64 te] 3)).alloc (.cells #[.int .i64 m] 3)).alloc (.cells #[.int .i64 0, .int .i64 0, .int .i64 0, .int .i64 0, .int .i64 0, .int .i64 0, .slice none 0 0] 55)).alloc (.cells #[.int .i64 0, .int .i64 0, .int .i64 0, .int .i64 0, .int .i64 0, .int .i64 0, .int .i64 0] 23)) = W0 at *
  have HWW : Hid (((((((w.alloc (.cells #[.int .i64 x.me, .int .i64 x.rv, .int .i64 x.nx, .int .i64 x.mo, .int .i64 x.bo, .int .i64 x.fr, .slice p len cap] 55)).alloc (.cells #[.slice pt lt ct, .int .i64 t.ff, .int .i64 t.fb, .int .i64 t.db, .int .i64 t.al] 40)).alloc (.cells #[.int .i64 te] 3)).alloc (.cells #[.int .i64 m] 3)).alloc (.cells #[.int .i64 0, .int .i64 0, .int .i64 0, .int .i64 0, .int .i64 0, .int .i64 0, .slice none 0 0] 55)).alloc (.cells #[.int .i64 0, .int .i64 0, .int .i64 0, .int .i64 0, .int .i64 0, .int .i64 0, .int .i64 0] 23)) = W0) := hWW
  clear hWW
  go_enter Try.func78, Try.ntmps78
  go_upto_region 1 with fail
  rw [HWW.out]
  clear HWW
  have HXt : Hid (∀ W, Below W0.heap.size W0 W → Blk W (w.heap.size + 1) #[.slice pt lt ct, .int .i64 t.ff, .int .i64 t.fb, .int .i64 t.db, .int .i64 t.al] 40) := fun W hW => H0t.out.next hW
  have HXe : Hid (∀ W, Below W0.heap.size W0 W → Blk W (w.heap.size + 1 + 1) #[.int .i64 te] 3) := fun W hW => H0e.out.next hW
  have HXm : Hid (∀ W, Below W0.heap.size W0 W → Blk W (w.heap.size + 1 + 1 + 1) #[.int .i64 m] 3) := fun W hW => H0m.out.next hW
  have HTC : Hid (Came w pt lt ct t.ts) := ht.ts
  have HBW : Hid (Below w.heap.size w W0) := H0B.out
  have hbw : w.heap.size ≤ W0.heap.size := H0B.out.size
  have HWK : Hid (Calls Try.prog 75 #[.agg #[.int .i64 x.me, .int .i64 x.rv, .int .i64 x.nx, .int .i64 x.mo, .int .i64 x.bo, .int .i64 x.fr, .slice p len cap], .func (.func 87) #[] #[.pointer (some ⟨w.heap.size + 1, 0, none⟩), .pointer (some ⟨w.heap.size + 1 + 1, 0, none⟩), .pointer (some ⟨w.heap.size + 1 + 1 + 1, 0, none⟩)]] W0 fun e w' => BPost W0 (SellIs x t te m) e w') := by
    refine pwork 87 #[.pointer (some ⟨w.heap.size + 1, 0, none⟩), .pointer (some ⟨w.heap.size + 1 + 1, 0, none⟩), .pointer (some ⟨w.heap.size + 1 + 1 + 1, 0, none⟩)] (SellIs x t te m) x p len cap W0 H0R.out (fun h => .inl ⟨.inl ⟨h, rfl⟩, rfl, rfl⟩) (fun _ _ => by kernel_rfl) ?_
    intro hm W g p' cap' hB hg hblk hld
    have HFR : deb.Fresh W (g + 1) p' len cap' x.ds := by
      obtain ⟨a0, c0, hv, hfr⟩ := deb.ld_fresh hld hm.1
      injection hv with h1 h2 h3
      rw [h1, h2, h3]; exact hfr
    have hfar : Far pt lt g := fun hn y hy => by have := came_lt HTC.out hn y hy; omega
    exact psell1 _ _ _ g x p' len cap' t pt lt ct te m W (HXt.out W hB) (HXe.out W hB) (HXm.out W hB) hblk HFR hm (HTC.out.below (HBW.out.trans (hB.mono hbw))) ht.wf hfar
  clear ha ht HXt HXe HXm
  go_wp2_with (first
    | (refine wp_whole rfl 55 _ rfl _ rfl 55 _ _ H0d.out Try.underlying55 rfl (by kernel_rfl) ?_)
    | (refine wp_whole rfl 40 _ rfl _ rfl 40 _ _ H0t.out Try.underlying40 rfl (by kernel_rfl) ?_)
    | (refine wp_whole rfl 3 _ rfl _ rfl 3 _ _ H0e.out Try.underlying3 rfl (by kernel_rfl) ?_)
    | (refine wp_whole rfl 3 _ rfl _ rfl 3 _ _ H0m.out Try.underlying3 rfl (by kernel_rfl) ?_)
    | (refine wp_whole rfl 55 _ rfl _ rfl 55 _ _ H0r.out Try.underlying55 rfl (by kernel_rfl) ?_)
    | (refine wp_whole rfl 23 _ rfl _ rfl 23 _ _ H0l.out Try.underlying23 rfl (by kernel_rfl) ?_)
    | fail)
  refine HWK.out.mono ?_
  rintro e w1 ⟨b, l, pr, lr, cr, fz, rfl, hi, hf, hb1⟩
  have H1d := shN H0d hb1
  have H1t := shN H0t hb1
  have H1e := shN H0e hb1
  have H1m := shN H0m hb1
  have H1r := shN H0r hb1
  have H1l := shN H0l hb1
  have H1R : Hid (Came w1 p len cap x.ds) := H0R.out.below hb1
  have H1B := shB H0B hb1
  have hsw1 : W0.heap.size ≤ w1.heap.size := hb1.size
  clear hb1 H0d H0t H0e H0m H0r H0l H0R H0B
  unfold Ac.v Ac.cs Bi.v
  clear HWK
  have H2F : Hid (deb.Fresh w1 W0.heap.size pr lr cr b.ds) := hf
  have HUPF : Hid (0 < lr → ∀ y, pr = some y → y.block < w1.heap.size) := came_lt H2F.out.came
  have HV : Hid (SellIs x t te m b l fz) := hi
  clear hf hi
  go_wp2_with (first
    | (refine wp_letAll rfl 55 _ _ rfl _ rfl _ rfl (by kernel_rfl) (by simp [Value.oneCell']) _ 55 H1r.out rfl ?_)
    | (refine wp_whole rfl 55 _ rfl _ rfl 55 _ _ H1d.out Try.underlying55 rfl (by kernel_rfl) ?_)
    | (refine wp_whole rfl 40 _ rfl _ rfl 40 _ _ H1t.out Try.underlying40 rfl (by kernel_rfl) ?_)
    | (refine wp_whole rfl 3 _ rfl _ rfl 3 _ _ H1e.out Try.underlying3 rfl (by kernel_rfl) ?_)
    | (refine wp_whole rfl 3 _ rfl _ rfl 3 _ _ H1m.out Try.underlying3 rfl (by kernel_rfl) ?_)
    | (refine wp_whole rfl 55 _ rfl _ rfl 55 _ _ H1r.out Try.underlying55 rfl (by kernel_rfl) ?_)
    | (refine wp_whole rfl 23 _ rfl _ rfl 23 _ _ H1l.out Try.underlying23 rfl (by kernel_rfl) ?_)
    | fail)
  intro W4 hU
  have H3d := shK hU H1d (by omega)
  have H3t := shK hU H1t (by omega)
  have H3e := shK hU H1e (by omega)
  have H3m := shK hU H1m (by omega)
  have H3r : Hid (Blk W4 (w.heap.size + 1 + 1 + 1 + 1) #[.int .i64 b.me, .int .i64 b.rv, .int .i64 b.nx, .int .i64 b.mo, .int .i64 b.bo, .int .i64 b.fr, .slice pr lr cr] 55) := hU.blk
  have H3l := shK hU H1l (by omega)
  have H3F : Hid (deb.Fresh W4 W0.heap.size pr lr cr b.ds) := fresh_updN H2F.out hU (fun hn y hy => by have f1 := H2F.out.new hn y hy; have f2 := HUPF.out hn y hy; omega)
  have H3B := shV hU H1B (by omega)
  have hsW4 : W4.heap.size = w1.heap.size := hU.size
  clear hU H1d H1t H1e H1m H1r H1l H2F H1B
  go_wp2_with (first
    | (refine wp_letAll rfl 23 _ _ rfl _ rfl _ rfl (by kernel_rfl) (by simp [Value.oneCell']) _ 23 H3l.out rfl ?_)
    | (refine wp_whole rfl 55 _ rfl _ rfl 55 _ _ H3d.out Try.underlying55 rfl (by kernel_rfl) ?_)
    | (refine wp_whole rfl 40 _ rfl _ rfl 40 _ _ H3t.out Try.underlying40 rfl (by kernel_rfl) ?_)
    | (refine wp_whole rfl 3 _ rfl _ rfl 3 _ _ H3e.out Try.underlying3 rfl (by kernel_rfl) ?_)
    | (refine wp_whole rfl 3 _ rfl _ rfl 3 _ _ H3m.out Try.underlying3 rfl (by kernel_rfl) ?_)
    | (refine wp_whole rfl 55 _ rfl _ rfl 55 _ _ H3r.out Try.underlying55 rfl (by kernel_rfl) ?_)
    | (refine wp_whole rfl 23 _ rfl _ rfl 23 _ _ H3l.out Try.underlying23 rfl (by kernel_rfl) ?_)
    | fail)
  intro W5 hU
  have H4d := shK hU H3d (by omega)
  have H4t := shK hU H3t (by omega)
  have H4e := shK hU H3e (by omega)
  have H4m := shK hU H3m (by omega)
  have H4r := shK hU H3r (by omega)
  have H4l : Hid (Blk W5 (w.heap.size + 1 + 1 + 1 + 1 + 1) #[.int .i64 l.id, .int .i64 l.te, .int .i64 l.de, .int .i64 l.fe, .int .i64 l.pr, .int .i64 l.ch, .int .i64 l.un] 23) := hU.blk
  have H4F : Hid (deb.Fresh W5 W0.heap.size pr lr cr b.ds) := fresh_updN H3F.out hU (fun hn y hy => by have f1 := H3F.out.new hn y hy; have f2 := HUPF.out hn y hy; omega)
  have H4B := shV hU H3B (by omega)
  have hsW5 : W5.heap.size = W4.heap.size := hU.size
  clear hU H3d H3t H3e H3m H3r H3l H3F H3B
  obtain ⟨Rr0, Rr1, Rr2, Rr3, Rr4, Rr5, Rr6⟩ := shc7 H4r
  obtain ⟨Rl0, Rl1, Rl2, Rl3, Rl4, Rl5, Rl6⟩ := shc7 H4l
  go_wp2_with fail
  exact bodyPost_ret (v := .tuple #[.agg #[.int .i64 b.me, .int .i64 b.rv, .int .i64 b.nx, .int .i64 b.mo, .int .i64 b.bo, .int .i64 b.fr, .slice pr lr cr], .agg #[.int .i64 l.id, .int .i64 l.te, .int .i64 l.de, .int .i64 l.fe, .int .i64 l.pr, .int .i64 l.ch, .int .i64 l.un], .int .i64 fz]) (by simp [results, Try.results78, Rr0.out, Rr1.out, Rr2.out, Rr3.out, Rr4.out, Rr5.out, Rr6.out, Rl0.out, Rl1.out, Rl2.out, Rl3.out, Rl4.out, Rl5.out, Rl6.out, go_sem]) rfl ⟨b, l, pr, lr, cr, fz, rfl, HV.out, H4F.out.low (by omega), H4B.out⟩

end Go.Proofs.Ytfhlokjpdkmdjaa.acc
