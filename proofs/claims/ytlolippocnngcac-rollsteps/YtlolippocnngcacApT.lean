/- An account is worked at. -/
import Derived.Test.YtlolippocnngcacApM
import Derived.Test.YtlolippocnngcacApN
import Derived.Test.YtlolippocnngcacOpAt
import Derived.Test.YtlolippocnngcacDbK
import Derived.Laws.AppendOwnNone
import Derived.Deep.DeepCutAuto
namespace Go.Proofs.Ytlolippocnngcac.acc
open Go.Proofs.Ytlolippocnngcac.tar (Du du0 Came RowD Ld PairT)
open Go.RowKit
set_option maxRecDepth 100000
set_option linter.unusedVariables false
set_option linter.unusedSimpArgs false

/-- A copy of pairs: append(nil, l...), of whatever came in. -/
theorem wp_copyD {P : Program} {T S : TypeId} (hP : PairT P T S) {w : World} {ops : Array Oper} {rest : List Oper} {o : Oper} {a : Act} {Q : Exit → Act → World → Prop} (hgd : o.guard = none) (s x : Operand)
    (ho : o.op = .call { callee := .builtin .append, args := #[s, x], argTypes := #[S, S] })
    (base : Nat) (p : Option Addr) (len cap : Nat) (zs : List Du) (hs : a.eval s = .slice none 0 0) (hx : a.eval x = .slice p len cap) (hc : Came w p len cap zs) (hbase : base ≤ w.heap.size)
    (h : ∀ v' w', Ld T w' base v' zs → w.grownBy w' none → wpList P ops Q rest (a.put o.dst v') w') : wpList P ops Q (o :: rest) a w := by
  cases p with
  | some A => exact tar.wp_pairs hP hgd s x ho base A len cap zs hs hx hc.row hc.bytes hbase h
  | none =>
    have h0 := hc.nil rfl
    have h1 : len = 0 := by have := hc.room; omega
    have h2 : zs = [] := List.eq_nil_of_length_eq_zero (by have := hc.row.1; omega)
    subst h0 h1 h2
    have hu := hP.under
    have hi0 := hP.info
    cases hq : P.info? T with
    | none => rw [hq] at hi0; cases hi0
    | some i =>
      refine wpList_append_own_none hgd s x S ho base T i 2 hu hq (.slice none 0 0) 0 [] hs (World.ownsRow_nil _ _ _ _) hx ?_
      exact h _ _ (tar.Ld.zero _ _ _) ⟨rfl, rfl, rfl, Nat.le_refl _, fun _ _ _ => rfl⟩
set_option maxHeartbeats 4000000 in
theorem pwork (F : Nat) (caps : Array Value) (Is : Ac → Bi → Int → Prop) (x : Ac) (p : Option Addr) (len cap : Nat) (w : World) (hc : Came w p len cap x.ds) (h5 : ¬ AMay x → Is ac0 bi0 5) (hK : ∀ args w, (callFunc F args).run Try.prog w = .ok (.enter F args) w)
    (hf : AMay x → ∀ (W : World) (g : Nat) (p' : Option Addr) (cap' : Nat), Below w.heap.size w W → w.heap.size ≤ g → Blk W g (wcs x bi0 p' len cap') 49 → Ld 46 W (g + 1) (.slice p' len cap') x.ds → Calls Try.prog F (#[.pointer (some ⟨g, 0, none⟩)] ++ caps) W fun e w' => WPost W g (Or0 Is) e w') :
    Calls Try.prog 9 #[.agg #[.int .i64 x.me, .int .i64 x.rv, .int .i64 x.nx, .int .i64 x.mo, .int .i64 x.bo, .int .i64 x.fr, .slice p len cap], .func (.func F) #[] caps] w fun e w' => BPost w Is e w' := by
  have HFU : Hid (AMay x → ∀ (W : World) (g : Nat) (p' : Option Addr) (cap' : Nat), Below w.heap.size w W → w.heap.size ≤ g → Blk W g (wcs x bi0 p' len cap') 49 → Ld 46 W (g + 1) (.slice p' len cap') x.ds → Calls Try.prog F (#[.pointer (some ⟨g, 0, none⟩)] ++ caps) W fun e w' => WPost W g (Or0 Is) e w') := hf
  have HLEN : Hid (x.ds.length = len) := hc.row.1
  have H5 : Hid (¬ AMay x → Is ac0 bi0 5) := h5
  clear hf h5
  have H0d : Hid (Blk (((w.alloc (.cells #[.int .i64 x.me, .int .i64 x.rv, .int .i64 x.nx, .int .i64 x.mo, .int .i64 x.bo, .int .i64 x.fr, .slice p len cap] 27)).alloc (.cells #[.int .i64 0, .int .i64 0, .int .i64 0, .int .i64 0, .int .i64 0, .int .i64 0, .slice none 0 0] 27)).alloc (.cells #[.int .i64 0, .int .i64 0, .int .i64 0, .int .i64 0, .int .i64 0, .int .i64 0, .int .i64 0] 37)) (w.heap.size) #[.int .i64 x.me, .int .i64 x.rv, .int .i64 x.nx, .int .i64 x.mo, .int .i64 x.bo, .int .i64 x.fr, .slice p len cap] 27) := ((Blk.new w _ _).alloc _).alloc _
  have H0r : Hid (Blk (((w.alloc (.cells #[.int .i64 x.me, .int .i64 x.rv, .int .i64 x.nx, .int .i64 x.mo, .int .i64 x.bo, .int .i64 x.fr, .slice p len cap] 27)).alloc (.cells #[.int .i64 0, .int .i64 0, .int .i64 0, .int .i64 0, .int .i64 0, .int .i64 0, .slice none 0 0] 27)).alloc (.cells #[.int .i64 0, .int .i64 0, .int .i64 0, .int .i64 0, .int .i64 0, .int .i64 0, .int .i64 0] 37)) (w.heap.size + 1) #[.int .i64 0, .int .i64 0, .int .i64 0, .int .i64 0, .int .i64 0, .int .i64 0, .slice none 0 0] 27) := (Blk.new1 w _ _ _).alloc _
  have H0l : Hid (Blk (((w.alloc (.cells #[.int .i64 x.me, .int .i64 x.rv, .int .i64 x.nx, .int .i64 x.mo, .int .i64 x.bo, .int .i64 x.fr, .slice p len cap] 27)).alloc (.cells #[.int .i64 0, .int .i64 0, .int .i64 0, .int .i64 0, .int .i64 0, .int .i64 0, .slice none 0 0] 27)).alloc (.cells #[.int .i64 0, .int .i64 0, .int .i64 0, .int .i64 0, .int .i64 0, .int .i64 0, .int .i64 0] 37)) (w.heap.size + 1 + 1) #[.int .i64 0, .int .i64 0, .int .i64 0, .int .i64 0, .int .i64 0, .int .i64 0, .int .i64 0] 37) := Blk.new2 w _ _ _ _
  have H0B : Hid (Below w.heap.size w (((w.alloc (.cells #[.int .i64 x.me, .int .i64 x.rv, .int .i64 x.nx, .int .i64 x.mo, .int .i64 x.bo, .int .i64 x.fr, .slice p len cap] 27)).alloc (.cells #[.int .i64 0, .int .i64 0, .int .i64 0, .int .i64 0, .int .i64 0, .int .i64 0, .slice none 0 0] 27)).alloc (.cells #[.int .i64 0, .int .i64 0, .int .i64 0, .int .i64 0, .int .i64 0, .int .i64 0, .int .i64 0] 37))) := (((Below.refl w.heap.size w).alloc (by simp) _).alloc (by simp) _).alloc (by simp; omega) _
  have H0R : Hid (Came (((w.alloc (.cells #[.int .i64 x.me, .int .i64 x.rv, .int .i64 x.nx, .int .i64 x.mo, .int .i64 x.bo, .int .i64 x.fr, .slice p len cap] 27)).alloc (.cells #[.int .i64 0, .int .i64 0, .int .i64 0, .int .i64 0, .int .i64 0, .int .i64 0, .slice none 0 0] 27)).alloc (.cells #[.int .i64 0, .int .i64 0, .int .i64 0, .int .i64 0, .int .i64 0, .int .i64 0, .int .i64 0] 37)) p len cap x.ds) := hc.below H0B.out
  have hs0 : w.heap.size + 1 + 1 < (((w.alloc (.cells #[.int .i64 x.me, .int .i64 x.rv, .int .i64 x.nx, .int .i64 x.mo, .int .i64 x.bo, .int .i64 x.fr, .slice p len cap] 27)).alloc (.cells #[.int .i64 0, .int .i64 0, .int .i64 0, .int .i64 0, .int .i64 0, .int .i64 0, .slice none 0 0] 27)).alloc (.cells #[.int .i64 0, .int .i64 0, .int .i64 0, .int .i64 0, .int .i64 0, .int .i64 0, .int .i64 0] 37)).heap.size := H0l.out.lt
  generalize hWW : (((w.alloc (.cells #[.int .i64 x.me, .int .i64 x.rv, .int .i64 x.nx, .int .i64 x.mo, .int .i64 x.bo, .int .i64 x.fr, .slice p len cap] 27)).alloc (.cells #[.int .i64 0, .int .i64 0, .int .i64 0, .int .i64 0, .int .i64 0, .int .i64 0, .slice none 0 0] 27)).alloc (.cells #[.int .i64 0, .int .i64 0, .int .i64 0, .int .i64 0, .int .i64 0, .int .i64 0, .int .i64 0] 37)) = W0 at *
  have HWW : Hid ((((w.alloc (.cells #[.int .i64 x.me, .int .i64 x.rv, .int .i64 x.nx, .int .i64 x.mo, .int .i64 x.bo, .int .i64 x.fr, .slice p len cap] 27)).alloc (.cells #[.int .i64 0, .int .i64 0, .int .i64 0, .int .i64 0, .int .i64 0, .int .i64 0, .slice none 0 0] 27)).alloc (.cells #[.int .i64 0, .int .i64 0, .int .i64 0, .int .i64 0, .int .i64 0, .int .i64 0, .int .i64 0] 37)) = W0) := hWW
  clear hWW
  go_enter Try.func9, Try.ntmps9
  go_upto_region 1 with fail
  rw [HWW.out]
  clear HWW
  clear hc
  have HPM : Hid (Calls Try.prog 13 #[.agg #[.int .i64 x.me, .int .i64 x.rv, .int .i64 x.nx, .int .i64 x.mo, .int .i64 x.bo, .int .i64 x.fr, .slice p len cap]] W0 fun e w' => MayPost W0 x e w') := pmay x p len cap W0 H0R.out
  go_wp2_with (first
    | (refine wp_whole rfl 27 _ rfl (w.heap.size) rfl 27 #[.int .i64 x.me, .int .i64 x.rv, .int .i64 x.nx, .int .i64 x.mo, .int .i64 x.bo, .int .i64 x.fr, .slice p len cap] _ H0d.out Try.underlying27 rfl (by kernel_rfl) ?_)
    | (refine wp_whole rfl 27 _ rfl (w.heap.size + 1) rfl 27 #[.int .i64 0, .int .i64 0, .int .i64 0, .int .i64 0, .int .i64 0, .int .i64 0, .slice none 0 0] _ H0r.out Try.underlying27 rfl (by kernel_rfl) ?_)
    | (refine wp_whole rfl 37 _ rfl (w.heap.size + 1 + 1) rfl 37 #[.int .i64 0, .int .i64 0, .int .i64 0, .int .i64 0, .int .i64 0, .int .i64 0, .int .i64 0] _ H0l.out Try.underlying37 rfl (by kernel_rfl) ?_)
    | fail)
  refine HPM.out.mono ?_
  rintro e w1 ⟨r, rfl, hr, hb1⟩
  have H1d : Hid (Blk w1 (w.heap.size) #[.int .i64 x.me, .int .i64 x.rv, .int .i64 x.nx, .int .i64 x.mo, .int .i64 x.bo, .int .i64 x.fr, .slice p len cap] 27) := H0d.out.next hb1
  have H1r : Hid (Blk w1 (w.heap.size + 1) #[.int .i64 0, .int .i64 0, .int .i64 0, .int .i64 0, .int .i64 0, .int .i64 0, .slice none 0 0] 27) := H0r.out.next hb1
  have H1l : Hid (Blk w1 (w.heap.size + 1 + 1) #[.int .i64 0, .int .i64 0, .int .i64 0, .int .i64 0, .int .i64 0, .int .i64 0, .int .i64 0] 37) := H0l.out.next hb1
  have H1R : Hid (Came w1 p len cap x.ds) := H0R.out.below hb1
  have H1B : Hid (Below w.heap.size w w1) := H0B.out.trans (hb1.mono H0B.out.size)
  have hsw1 : W0.heap.size ≤ w1.heap.size := hb1.size
  clear hb1 H0d H0r H0l H0R H0B
  clear HPM
  cases r with
  | false =>
    have HV : Hid (Is ac0 bi0 5) := H5.out fun h => Bool.noConfusion (hr.2 h)
    clear hr H5 HFU hK
    go_wp2_with (first
      | (refine wp_letAll rfl 27 _ _ rfl (w.heap.size + 1) rfl #[.int .i64 0, .int .i64 0, .int .i64 0, .int .i64 0, .int .i64 0, .int .i64 0, .slice none 0 0] rfl (by kernel_rfl) (by simp [Value.oneCell']) #[.int .i64 0, .int .i64 0, .int .i64 0, .int .i64 0, .int .i64 0, .int .i64 0, .slice none 0 0] 27 H1r.out rfl ?_)
      | (refine wp_whole rfl 27 _ rfl (w.heap.size) rfl 27 #[.int .i64 x.me, .int .i64 x.rv, .int .i64 x.nx, .int .i64 x.mo, .int .i64 x.bo, .int .i64 x.fr, .slice p len cap] _ H1d.out Try.underlying27 rfl (by kernel_rfl) ?_)
      | (refine wp_whole rfl 27 _ rfl (w.heap.size + 1) rfl 27 #[.int .i64 0, .int .i64 0, .int .i64 0, .int .i64 0, .int .i64 0, .int .i64 0, .slice none 0 0] _ H1r.out Try.underlying27 rfl (by kernel_rfl) ?_)
      | (refine wp_whole rfl 37 _ rfl (w.heap.size + 1 + 1) rfl 37 #[.int .i64 0, .int .i64 0, .int .i64 0, .int .i64 0, .int .i64 0, .int .i64 0, .int .i64 0] _ H1l.out Try.underlying37 rfl (by kernel_rfl) ?_)
      | fail)
    intro w1a hU
    have H2d : Hid (Blk w1a (w.heap.size) #[.int .i64 x.me, .int .i64 x.rv, .int .i64 x.nx, .int .i64 x.mo, .int .i64 x.bo, .int .i64 x.fr, .slice p len cap] 27) := hU.keep H1d.out (by omega)
    have H2r : Hid (Blk w1a (w.heap.size + 1) #[.int .i64 0, .int .i64 0, .int .i64 0, .int .i64 0, .int .i64 0, .int .i64 0, .slice none 0 0] 27) := hU.blk
    have H2l : Hid (Blk w1a (w.heap.size + 1 + 1) #[.int .i64 0, .int .i64 0, .int .i64 0, .int .i64 0, .int .i64 0, .int .i64 0, .int .i64 0] 37) := hU.keep H1l.out (by omega)
    have H2B : Hid (Below w.heap.size w w1a) := hU.bel _ _ (by omega) H1B.out
    have hsw1a : w1a.heap.size = w1.heap.size := hU.size
    clear hU H1d H1r H1l H1R H1B
    go_wp2_with (first
      | (refine wp_letAll rfl 37 _ _ rfl (w.heap.size + 1 + 1) rfl #[.int .i64 0, .int .i64 0, .int .i64 0, .int .i64 0, .int .i64 0, .int .i64 0, .int .i64 0] rfl (by kernel_rfl) (by simp [Value.oneCell']) #[.int .i64 0, .int .i64 0, .int .i64 0, .int .i64 0, .int .i64 0, .int .i64 0, .int .i64 0] 37 H2l.out rfl ?_)
      | (refine wp_whole rfl 27 _ rfl (w.heap.size) rfl 27 #[.int .i64 x.me, .int .i64 x.rv, .int .i64 x.nx, .int .i64 x.mo, .int .i64 x.bo, .int .i64 x.fr, .slice p len cap] _ H2d.out Try.underlying27 rfl (by kernel_rfl) ?_)
      | (refine wp_whole rfl 27 _ rfl (w.heap.size + 1) rfl 27 #[.int .i64 0, .int .i64 0, .int .i64 0, .int .i64 0, .int .i64 0, .int .i64 0, .slice none 0 0] _ H2r.out Try.underlying27 rfl (by kernel_rfl) ?_)
      | (refine wp_whole rfl 37 _ rfl (w.heap.size + 1 + 1) rfl 37 #[.int .i64 0, .int .i64 0, .int .i64 0, .int .i64 0, .int .i64 0, .int .i64 0, .int .i64 0] _ H2l.out Try.underlying37 rfl (by kernel_rfl) ?_)
      | fail)
    intro w1ab hU
    have H3d : Hid (Blk w1ab (w.heap.size) #[.int .i64 x.me, .int .i64 x.rv, .int .i64 x.nx, .int .i64 x.mo, .int .i64 x.bo, .int .i64 x.fr, .slice p len cap] 27) := hU.keep H2d.out (by omega)
    have H3r : Hid (Blk w1ab (w.heap.size + 1) #[.int .i64 0, .int .i64 0, .int .i64 0, .int .i64 0, .int .i64 0, .int .i64 0, .slice none 0 0] 27) := hU.keep H2r.out (by omega)
    have H3l : Hid (Blk w1ab (w.heap.size + 1 + 1) #[.int .i64 0, .int .i64 0, .int .i64 0, .int .i64 0, .int .i64 0, .int .i64 0, .int .i64 0] 37) := hU.blk
    have H3B : Hid (Below w.heap.size w w1ab) := hU.bel _ _ (by omega) H2B.out
    have hsw1ab : w1ab.heap.size = w1a.heap.size := hU.size
    clear hU H2d H2r H2l H2B
    have Rr0 : Hid (w1ab.cell? ⟨w.heap.size + 1, 0, none⟩ = some (.int .i64 0)) := H3r.out.cell 0
    have Rr1 : Hid (w1ab.cell? ⟨w.heap.size + 1, 1, none⟩ = some (.int .i64 0)) := H3r.out.cell 1
    have Rr2 : Hid (w1ab.cell? ⟨w.heap.size + 1, 2, none⟩ = some (.int .i64 0)) := H3r.out.cell 2
    have Rr3 : Hid (w1ab.cell? ⟨w.heap.size + 1, 3, none⟩ = some (.int .i64 0)) := H3r.out.cell 3
    have Rr4 : Hid (w1ab.cell? ⟨w.heap.size + 1, 4, none⟩ = some (.int .i64 0)) := H3r.out.cell 4
    have Rr5 : Hid (w1ab.cell? ⟨w.heap.size + 1, 5, none⟩ = some (.int .i64 0)) := H3r.out.cell 5
    have Rr6 : Hid (w1ab.cell? ⟨w.heap.size + 1, 6, none⟩ = some (.slice none 0 0)) := H3r.out.cell 6
    have Rl0 : Hid (w1ab.cell? ⟨w.heap.size + 1 + 1, 0, none⟩ = some (.int .i64 0)) := H3l.out.cell 0
    have Rl1 : Hid (w1ab.cell? ⟨w.heap.size + 1 + 1, 1, none⟩ = some (.int .i64 0)) := H3l.out.cell 1
    have Rl2 : Hid (w1ab.cell? ⟨w.heap.size + 1 + 1, 2, none⟩ = some (.int .i64 0)) := H3l.out.cell 2
    have Rl3 : Hid (w1ab.cell? ⟨w.heap.size + 1 + 1, 3, none⟩ = some (.int .i64 0)) := H3l.out.cell 3
    have Rl4 : Hid (w1ab.cell? ⟨w.heap.size + 1 + 1, 4, none⟩ = some (.int .i64 0)) := H3l.out.cell 4
    have Rl5 : Hid (w1ab.cell? ⟨w.heap.size + 1 + 1, 5, none⟩ = some (.int .i64 0)) := H3l.out.cell 5
    have Rl6 : Hid (w1ab.cell? ⟨w.heap.size + 1 + 1, 6, none⟩ = some (.int .i64 0)) := H3l.out.cell 6
    go_wp2_with fail
    exact bodyPost_ret (v := .tuple #[.agg #[.int .i64 0, .int .i64 0, .int .i64 0, .int .i64 0, .int .i64 0, .int .i64 0, .slice none 0 0], .agg #[.int .i64 0, .int .i64 0, .int .i64 0, .int .i64 0, .int .i64 0, .int .i64 0, .int .i64 0], .int .i64 5]) (by simp [results, Try.results9, Rr0.out, Rr1.out, Rr2.out, Rr3.out, Rr4.out, Rr5.out, Rr6.out, Rl0.out, Rl1.out, Rl2.out, Rl3.out, Rl4.out, Rl5.out, Rl6.out, go_sem]) rfl ⟨ac0, bi0, none, 0, 0, _, rfl, HV.out, deb.fresh_nil _ _, H3B.out⟩
  | true =>
    have HM : Hid (AMay x) := hr.1 rfl
    clear hr H5
    have HSV : Hid (Blk w1 (w.heap.size) #[.int .i64 x.me, .int .i64 x.rv, .int .i64 x.nx, .int .i64 x.mo, .int .i64 x.bo, .int .i64 x.fr, .slice p len cap] 27) := H1d.out
    have H2d : Hid (Blk (w1.alloc (.cells #[.int .i64 x.me, .int .i64 x.rv, .int .i64 x.nx, .int .i64 x.mo, .int .i64 x.bo, .int .i64 x.fr, .slice p len cap, .int .i64 0, .int .i64 0, .int .i64 0, .int .i64 0, .int .i64 0, .int .i64 0, .int .i64 0] 49)) (w.heap.size) #[.int .i64 x.me, .int .i64 x.rv, .int .i64 x.nx, .int .i64 x.mo, .int .i64 x.bo, .int .i64 x.fr, .slice p len cap] 27) := H1d.out.alloc _
    have H2r : Hid (Blk (w1.alloc (.cells #[.int .i64 x.me, .int .i64 x.rv, .int .i64 x.nx, .int .i64 x.mo, .int .i64 x.bo, .int .i64 x.fr, .slice p len cap, .int .i64 0, .int .i64 0, .int .i64 0, .int .i64 0, .int .i64 0, .int .i64 0, .int .i64 0] 49)) (w.heap.size + 1) #[.int .i64 0, .int .i64 0, .int .i64 0, .int .i64 0, .int .i64 0, .int .i64 0, .slice none 0 0] 27) := H1r.out.alloc _
    have H2l : Hid (Blk (w1.alloc (.cells #[.int .i64 x.me, .int .i64 x.rv, .int .i64 x.nx, .int .i64 x.mo, .int .i64 x.bo, .int .i64 x.fr, .slice p len cap, .int .i64 0, .int .i64 0, .int .i64 0, .int .i64 0, .int .i64 0, .int .i64 0, .int .i64 0] 49)) (w.heap.size + 1 + 1) #[.int .i64 0, .int .i64 0, .int .i64 0, .int .i64 0, .int .i64 0, .int .i64 0, .int .i64 0] 37) := H1l.out.alloc _
    have H2R : Hid (Came (w1.alloc (.cells #[.int .i64 x.me, .int .i64 x.rv, .int .i64 x.nx, .int .i64 x.mo, .int .i64 x.bo, .int .i64 x.fr, .slice p len cap, .int .i64 0, .int .i64 0, .int .i64 0, .int .i64 0, .int .i64 0, .int .i64 0, .int .i64 0] 49)) p len cap x.ds) := H1R.out.below ((Below.refl _ _).alloc (Nat.le_refl _) _)
    have H2n : Hid (Blk (w1.alloc (.cells #[.int .i64 x.me, .int .i64 x.rv, .int .i64 x.nx, .int .i64 x.mo, .int .i64 x.bo, .int .i64 x.fr, .slice p len cap, .int .i64 0, .int .i64 0, .int .i64 0, .int .i64 0, .int .i64 0, .int .i64 0, .int .i64 0] 49)) (w1.heap.size) #[.int .i64 x.me, .int .i64 x.rv, .int .i64 x.nx, .int .i64 x.mo, .int .i64 x.bo, .int .i64 x.fr, .slice p len cap, .int .i64 0, .int .i64 0, .int .i64 0, .int .i64 0, .int .i64 0, .int .i64 0, .int .i64 0] 49) := Blk.new w1 _ _
    have H2B : Hid (Below w.heap.size w (w1.alloc (.cells #[.int .i64 x.me, .int .i64 x.rv, .int .i64 x.nx, .int .i64 x.mo, .int .i64 x.bo, .int .i64 x.fr, .slice p len cap, .int .i64 0, .int .i64 0, .int .i64 0, .int .i64 0, .int .i64 0, .int .i64 0, .int .i64 0] 49))) := H1B.out.alloc H1B.out.size _
    have hsW2 : (w1.alloc (.cells #[.int .i64 x.me, .int .i64 x.rv, .int .i64 x.nx, .int .i64 x.mo, .int .i64 x.bo, .int .i64 x.fr, .slice p len cap, .int .i64 0, .int .i64 0, .int .i64 0, .int .i64 0, .int .i64 0, .int .i64 0, .int .i64 0] 49)).heap.size = w1.heap.size + 1 := by simp
    clear H1d H1r H1l H1R H1B
    go_upto_region 4 with (first | (refine wp_whole rfl 27 _ rfl (w.heap.size) rfl 27 #[.int .i64 x.me, .int .i64 x.rv, .int .i64 x.nx, .int .i64 x.mo, .int .i64 x.bo, .int .i64 x.fr, .slice p len cap] _ HSV.out Try.underlying27 rfl (by kernel_rfl) ?_) | fail)
    generalize (w1.alloc (.cells #[.int .i64 x.me, .int .i64 x.rv, .int .i64 x.nx, .int .i64 x.mo, .int .i64 x.bo, .int .i64 x.fr, .slice p len cap, .int .i64 0, .int .i64 0, .int .i64 0, .int .i64 0, .int .i64 0, .int .i64 0, .int .i64 0] 49)) = W2 at *
    clear HSV
    have qd6 : W2.cell? ⟨w.heap.size, 6, none⟩ = some (.slice p len cap) := H2d.out.cell 6
    go_wp2_with (first
      | (at_builtin; refine wp_copyD deb.debtT rfl _ _ rfl (w1.heap.size + 1) p len cap x.ds rfl rfl H2R.out (by omega) ?_)
      | (refine wp_whole rfl 27 _ rfl (w.heap.size) rfl 27 #[.int .i64 x.me, .int .i64 x.rv, .int .i64 x.nx, .int .i64 x.mo, .int .i64 x.bo, .int .i64 x.fr, .slice p len cap] _ H2d.out Try.underlying27 rfl (by kernel_rfl) ?_)
      | (refine wp_whole rfl 27 _ rfl (w.heap.size + 1) rfl 27 #[.int .i64 0, .int .i64 0, .int .i64 0, .int .i64 0, .int .i64 0, .int .i64 0, .slice none 0 0] _ H2r.out Try.underlying27 rfl (by kernel_rfl) ?_)
      | (refine wp_whole rfl 37 _ rfl (w.heap.size + 1 + 1) rfl 37 #[.int .i64 0, .int .i64 0, .int .i64 0, .int .i64 0, .int .i64 0, .int .i64 0, .int .i64 0] _ H2l.out Try.underlying37 rfl (by kernel_rfl) ?_)
      | (refine wp_whole rfl 49 _ rfl (w1.heap.size) rfl 49 #[.int .i64 x.me, .int .i64 x.rv, .int .i64 x.nx, .int .i64 x.mo, .int .i64 x.bo, .int .i64 x.fr, .slice p len cap, .int .i64 0, .int .i64 0, .int .i64 0, .int .i64 0, .int .i64 0, .int .i64 0, .int .i64 0] _ H2n.out Try.underlying49 rfl (by kernel_rfl) ?_)
      | fail)
    intro v3 w3 hl3 hg3
    have hb3 : Below W2.heap.size W2 w3 := (Below.refl _ _).grown hg3 (Nat.le_refl _) (fun k hk => by cases hk)
    obtain ⟨p3, cap3, hv3, hf3⟩ := deb.ld_fresh hl3 HM.out.1
    rw [HLEN.out] at hv3 hf3
    subst hv3
    have H3d : Hid (Blk w3 (w.heap.size) #[.int .i64 x.me, .int .i64 x.rv, .int .i64 x.nx, .int .i64 x.mo, .int .i64 x.bo, .int .i64 x.fr, .slice p len cap] 27) := H2d.out.next hb3
    have H3r : Hid (Blk w3 (w.heap.size + 1) #[.int .i64 0, .int .i64 0, .int .i64 0, .int .i64 0, .int .i64 0, .int .i64 0, .slice none 0 0] 27) := H2r.out.next hb3
    have H3l : Hid (Blk w3 (w.heap.size + 1 + 1) #[.int .i64 0, .int .i64 0, .int .i64 0, .int .i64 0, .int .i64 0, .int .i64 0, .int .i64 0] 37) := H2l.out.next hb3
    have H3n : Hid (Blk w3 (w1.heap.size) #[.int .i64 x.me, .int .i64 x.rv, .int .i64 x.nx, .int .i64 x.mo, .int .i64 x.bo, .int .i64 x.fr, .slice p len cap, .int .i64 0, .int .i64 0, .int .i64 0, .int .i64 0, .int .i64 0, .int .i64 0, .int .i64 0] 49) := H2n.out.next hb3
    have H3B : Hid (Below w.heap.size w w3) := bel_step H2B.out hb3
    have HL3 : Hid (Ld 46 w3 (w1.heap.size + 1) (.slice p3 len cap3) x.ds) := hl3
    have hsw3 : W2.heap.size ≤ w3.heap.size := hb3.size
    clear hl3 hg3 hb3 hf3 qd6 H2d H2r H2l H2n H2B
    go_wp2_with (first
      | (refine wp_letS rfl 25 _ _ rfl (w1.heap.size) 6 rfl p3 len cap3 rfl (by kernel_rfl) #[.int .i64 x.me, .int .i64 x.rv, .int .i64 x.nx, .int .i64 x.mo, .int .i64 x.bo, .int .i64 x.fr, .slice p len cap, .int .i64 0, .int .i64 0, .int .i64 0, .int .i64 0, .int .i64 0, .int .i64 0, .int .i64 0] 49 H3n.out (by simp) ?_)
      | (refine wp_whole rfl 27 _ rfl (w.heap.size) rfl 27 #[.int .i64 x.me, .int .i64 x.rv, .int .i64 x.nx, .int .i64 x.mo, .int .i64 x.bo, .int .i64 x.fr, .slice p len cap] _ H3d.out Try.underlying27 rfl (by kernel_rfl) ?_)
      | (refine wp_whole rfl 27 _ rfl (w.heap.size + 1) rfl 27 #[.int .i64 0, .int .i64 0, .int .i64 0, .int .i64 0, .int .i64 0, .int .i64 0, .slice none 0 0] _ H3r.out Try.underlying27 rfl (by kernel_rfl) ?_)
      | (refine wp_whole rfl 37 _ rfl (w.heap.size + 1 + 1) rfl 37 #[.int .i64 0, .int .i64 0, .int .i64 0, .int .i64 0, .int .i64 0, .int .i64 0, .int .i64 0] _ H3l.out Try.underlying37 rfl (by kernel_rfl) ?_)
      | (refine wp_whole rfl 49 _ rfl (w1.heap.size) rfl 49 #[.int .i64 x.me, .int .i64 x.rv, .int .i64 x.nx, .int .i64 x.mo, .int .i64 x.bo, .int .i64 x.fr, .slice p len cap, .int .i64 0, .int .i64 0, .int .i64 0, .int .i64 0, .int .i64 0, .int .i64 0, .int .i64 0] _ H3n.out Try.underlying49 rfl (by kernel_rfl) ?_)
      | fail)
    intro W4 hU
    have H4d : Hid (Blk W4 (w.heap.size) #[.int .i64 x.me, .int .i64 x.rv, .int .i64 x.nx, .int .i64 x.mo, .int .i64 x.bo, .int .i64 x.fr, .slice p len cap] 27) := hU.keep H3d.out (by omega)
    have H4r : Hid (Blk W4 (w.heap.size + 1) #[.int .i64 0, .int .i64 0, .int .i64 0, .int .i64 0, .int .i64 0, .int .i64 0, .slice none 0 0] 27) := hU.keep H3r.out (by omega)
    have H4l : Hid (Blk W4 (w.heap.size + 1 + 1) #[.int .i64 0, .int .i64 0, .int .i64 0, .int .i64 0, .int .i64 0, .int .i64 0, .int .i64 0] 37) := hU.keep H3l.out (by omega)
    have H4n : Hid (Blk W4 (w1.heap.size) #[.int .i64 x.me, .int .i64 x.rv, .int .i64 x.nx, .int .i64 x.mo, .int .i64 x.bo, .int .i64 x.fr, .slice p3 len cap3, .int .i64 0, .int .i64 0, .int .i64 0, .int .i64 0, .int .i64 0, .int .i64 0, .int .i64 0] 49) := hU.blk
    have H4B : Hid (Below w.heap.size w W4) := hU.bel _ _ (by omega) H3B.out
    have HL4 : Hid (Ld 46 W4 (w1.heap.size + 1) (.slice p3 len cap3) x.ds) := ld_upd HL3.out hU (by omega)
    have HCA : Hid (Calls Try.prog F (#[.pointer (some ⟨w1.heap.size, 0, none⟩)] ++ caps) W4 fun e w' => WPost W4 w1.heap.size (Or0 Is) e w') := HFU.out HM.out W4 w1.heap.size p3 cap3 H4B.out (by omega) H4n.out HL4.out
    have hsW4 : W4.heap.size = w3.heap.size := hU.size
    clear hU HL3 HL4 HFU H3d H3r H3l H3n H3B
    go_wp2_with fail
    refine HCA.out.mono ?_
    rintro e w5 ⟨y, b, q, n, c, f, rfl, hor, hi5, hf5, hb5⟩
    have H5d : Hid (Blk w5 (w.heap.size) #[.int .i64 x.me, .int .i64 x.rv, .int .i64 x.nx, .int .i64 x.mo, .int .i64 x.bo, .int .i64 x.fr, .slice p len cap] 27) := H4d.out.below hb5 (by omega)
    have H5r : Hid (Blk w5 (w.heap.size + 1) #[.int .i64 0, .int .i64 0, .int .i64 0, .int .i64 0, .int .i64 0, .int .i64 0, .slice none 0 0] 27) := H4r.out.below hb5 (by omega)
    have H5l : Hid (Blk w5 (w.heap.size + 1 + 1) #[.int .i64 0, .int .i64 0, .int .i64 0, .int .i64 0, .int .i64 0, .int .i64 0, .int .i64 0] 37) := H4l.out.below hb5 (by omega)
    have H5n : Hid (Blk w5 (w1.heap.size) #[.int .i64 y.me, .int .i64 y.rv, .int .i64 y.nx, .int .i64 y.mo, .int .i64 y.bo, .int .i64 y.fr, .slice q n c, .int .i64 b.id, .int .i64 b.te, .int .i64 b.de, .int .i64 b.fe, .int .i64 b.pr, .int .i64 b.ch, .int .i64 b.un] 49) := hi5
    have H5B : Hid (Below w.heap.size w w5) := H4B.out.trans (hb5.mono (by omega))
    have hsw5 : W4.heap.size ≤ w5.heap.size := hb5.size
    have H6F : Hid (deb.Fresh w5 (w1.heap.size + 1) q n c y.ds) := hf5
    have HUPF : Hid (0 < n → ∀ y, q = some y → y.block < w5.heap.size) := came_lt H6F.out.came
    have HOR : Hid (Or0 Is y b f) := hor
    clear hor hi5 hf5 hb5 HCA hK H4d H4r H4l H4n H4B
    by_cases h0 : f = 0
    · subst h0
      have HV : Hid (Is y b 0) := by
        rcases HOR.out with ⟨h, _⟩ | ⟨_, h⟩
        · exact absurd rfl h
        · exact h
      clear HOR
      go_wp2_with fail
      refine wp_region_held_drew (S := fun v => Blk v (w1.heap.size) #[.int .i64 y.me, .int .i64 y.rv, .int .i64 y.nx, .int .i64 y.mo, .int .i64 y.bo, .int .i64 y.fr, .slice q n c, .int .i64 b.id, .int .i64 b.te, .int .i64 b.de, .int .i64 b.fe, .int .i64 b.pr, .int .i64 b.ch, .int .i64 b.un] 49) (by kernel_rfl) (Blk.drew H5n.out 1) (fun hHeld => ?_)
      refine take_at 0 28 (.pointer (some ⟨w1.heap.size, 0, none⟩)) _ rfl rfl (by kernel_rfl) (by kernel_rfl) (by kernel_rfl) (fun _ _ _ h => h) (Or.inl ⟨by rfl, fun v hv => by skip; clear hv; go_simp⟩) hHeld ?_
      simp only [Act.put, List.setIfInBounds_toArray, List.set_cons_zero, List.set_cons_succ]
      refine take_at 1 29 (.agg #[.int .i64 y.me, .int .i64 y.rv, .int .i64 y.nx, .int .i64 y.mo, .int .i64 y.bo, .int .i64 y.fr, .slice q n c]) _ rfl rfl (by kernel_rfl) (by kernel_rfl) (by kernel_rfl) (fun _ _ _ h => h) (Or.inl ⟨by rfl, fun v hv => by have g0 := hv.cell 0; have g1 := hv.cell 1; have g2 := hv.cell 2; have g3 := hv.cell 3; have g4 := hv.cell 4; have g5 := hv.cell 5; have g6 := hv.cell 6; clear hv; go_simp⟩) hHeld ?_
      simp only [Act.put, List.setIfInBounds_toArray, List.set_cons_zero, List.set_cons_succ]
      refine take_at 2 30 (.pointer (some ⟨w1.heap.size, 7, none⟩)) _ rfl rfl (by kernel_rfl) (by kernel_rfl) (by kernel_rfl) (fun _ _ _ h => h) (Or.inl ⟨by rfl, fun v hv => by skip; clear hv; go_simp⟩) hHeld ?_
      simp only [Act.put, List.setIfInBounds_toArray, List.set_cons_zero, List.set_cons_succ]
      refine take_at 3 31 (.agg #[.int .i64 b.id, .int .i64 b.te, .int .i64 b.de, .int .i64 b.fe, .int .i64 b.pr, .int .i64 b.ch, .int .i64 b.un]) _ rfl rfl (by kernel_rfl) (by kernel_rfl) (by kernel_rfl) (fun _ _ _ h => h) (Or.inl ⟨by rfl, fun v hv => by have g0 := hv.cell 7; have g1 := hv.cell 8; have g2 := hv.cell 9; have g3 := hv.cell 10; have g4 := hv.cell 11; have g5 := hv.cell 12; have g6 := hv.cell 13; clear hv; go_simp⟩) hHeld ?_
      simp only [Act.put, List.setIfInBounds_toArray, List.set_cons_zero, List.set_cons_succ]
      refine wpAnyH_ready (rs := [4]) (by kernel_rfl) (by simp) (AllReadyH.cons rfl (fun K hK => ?_) AllReadyH.nil)
      rw [if_pos (by rfl)]
      refine wp_letOp 27 _ _ rfl (w.heap.size + 1) rfl #[.int .i64 y.me, .int .i64 y.rv, .int .i64 y.nx, .int .i64 y.mo, .int .i64 y.bo, .int .i64 y.fr, .slice q n c] rfl (by kernel_rfl) (by simp [Value.oneCell']) #[.int .i64 0, .int .i64 0, .int .i64 0, .int .i64 0, .int .i64 0, .int .i64 0, .slice none 0 0] 27 (Blk.drew H5r.out 1) rfl rfl ?_
      intro V1 hU
      have H7d : Hid (Blk V1 (w.heap.size) #[.int .i64 x.me, .int .i64 x.rv, .int .i64 x.nx, .int .i64 x.mo, .int .i64 x.bo, .int .i64 x.fr, .slice p len cap] 27) := hU.keep (Blk.drew H5d.out 1) (by omega)
      have H7r : Hid (Blk V1 (w.heap.size + 1) #[.int .i64 y.me, .int .i64 y.rv, .int .i64 y.nx, .int .i64 y.mo, .int .i64 y.bo, .int .i64 y.fr, .slice q n c] 27) := hU.blk
      have H7l : Hid (Blk V1 (w.heap.size + 1 + 1) #[.int .i64 0, .int .i64 0, .int .i64 0, .int .i64 0, .int .i64 0, .int .i64 0, .int .i64 0] 37) := hU.keep (Blk.drew H5l.out 1) (by omega)
      have H7n : Hid (Blk V1 (w1.heap.size) #[.int .i64 y.me, .int .i64 y.rv, .int .i64 y.nx, .int .i64 y.mo, .int .i64 y.bo, .int .i64 y.fr, .slice q n c, .int .i64 b.id, .int .i64 b.te, .int .i64 b.de, .int .i64 b.fe, .int .i64 b.pr, .int .i64 b.ch, .int .i64 b.un] 49) := hU.keep (Blk.drew H5n.out 1) (by omega)
      have H7F : Hid (deb.Fresh V1 (w1.heap.size + 1) q n c y.ds) := fresh_updN (fresh_drew H6F.out) hU (fun hn y hy => by have f1 := H6F.out.new hn y hy; have f2 := HUPF.out hn y hy; omega)
      have H7B : Hid (Below w.heap.size w V1) := hU.bel _ _ (by omega) H5B.out.drew
      clear hU H5d H5r H5l H5n H6F H5B
      refine hK.out _ _ H7n.out (fun hHeld => ?_)
      clear hK K
      refine wpAnyH_ready (rs := [5]) (by kernel_rfl) (by simp) (AllReadyH.cons rfl (fun K hK => ?_) AllReadyH.nil)
      rw [if_pos (by rfl)]
      refine wp_letOp 37 _ _ rfl (w.heap.size + 1 + 1) rfl #[.int .i64 b.id, .int .i64 b.te, .int .i64 b.de, .int .i64 b.fe, .int .i64 b.pr, .int .i64 b.ch, .int .i64 b.un] rfl (by kernel_rfl) (by simp [Value.oneCell']) #[.int .i64 0, .int .i64 0, .int .i64 0, .int .i64 0, .int .i64 0, .int .i64 0, .int .i64 0] 37 H7l.out rfl rfl ?_
      intro V2 hU
      have H8d : Hid (Blk V2 (w.heap.size) #[.int .i64 x.me, .int .i64 x.rv, .int .i64 x.nx, .int .i64 x.mo, .int .i64 x.bo, .int .i64 x.fr, .slice p len cap] 27) := hU.keep H7d.out (by omega)
      have H8r : Hid (Blk V2 (w.heap.size + 1) #[.int .i64 y.me, .int .i64 y.rv, .int .i64 y.nx, .int .i64 y.mo, .int .i64 y.bo, .int .i64 y.fr, .slice q n c] 27) := hU.keep H7r.out (by omega)
      have H8l : Hid (Blk V2 (w.heap.size + 1 + 1) #[.int .i64 b.id, .int .i64 b.te, .int .i64 b.de, .int .i64 b.fe, .int .i64 b.pr, .int .i64 b.ch, .int .i64 b.un] 37) := hU.blk
      have H8n : Hid (Blk V2 (w1.heap.size) #[.int .i64 y.me, .int .i64 y.rv, .int .i64 y.nx, .int .i64 y.mo, .int .i64 y.bo, .int .i64 y.fr, .slice q n c, .int .i64 b.id, .int .i64 b.te, .int .i64 b.de, .int .i64 b.fe, .int .i64 b.pr, .int .i64 b.ch, .int .i64 b.un] 49) := hU.keep H7n.out (by omega)
      have H8F : Hid (deb.Fresh V2 (w1.heap.size + 1) q n c y.ds) := fresh_updN H7F.out hU (fun hn y hy => by have f1 := H7F.out.new hn y hy; have f2 := HUPF.out hn y hy; omega)
      have H8B : Hid (Below w.heap.size w V2) := hU.bel _ _ (by omega) H7B.out
      clear hU H7d H7r H7l H7n H7F H7B
      refine hK.out _ _ H8n.out (fun hHeld => ?_)
      clear hK K
      refine take_at 6 6 (.int .i64 0) _ rfl rfl (by kernel_rfl) (by kernel_rfl) (by kernel_rfl) (fun _ _ _ h => h) (Or.inl ⟨by rfl, fun v hv => by skip; clear hv; go_simp⟩) hHeld ?_
      simp only [Act.put, List.setIfInBounds_toArray, List.set_cons_zero, List.set_cons_succ]
      refine wpAnyH_done (by kernel_rfl) ?_ _
      clear hHeld
      have Rr0 : Hid (V2.cell? ⟨w.heap.size + 1, 0, none⟩ = some (.int .i64 y.me)) := H8r.out.cell 0
      have Rr1 : Hid (V2.cell? ⟨w.heap.size + 1, 1, none⟩ = some (.int .i64 y.rv)) := H8r.out.cell 1
      have Rr2 : Hid (V2.cell? ⟨w.heap.size + 1, 2, none⟩ = some (.int .i64 y.nx)) := H8r.out.cell 2
      have Rr3 : Hid (V2.cell? ⟨w.heap.size + 1, 3, none⟩ = some (.int .i64 y.mo)) := H8r.out.cell 3
      have Rr4 : Hid (V2.cell? ⟨w.heap.size + 1, 4, none⟩ = some (.int .i64 y.bo)) := H8r.out.cell 4
      have Rr5 : Hid (V2.cell? ⟨w.heap.size + 1, 5, none⟩ = some (.int .i64 y.fr)) := H8r.out.cell 5
      have Rr6 : Hid (V2.cell? ⟨w.heap.size + 1, 6, none⟩ = some (.slice q n c)) := H8r.out.cell 6
      have Rl0 : Hid (V2.cell? ⟨w.heap.size + 1 + 1, 0, none⟩ = some (.int .i64 b.id)) := H8l.out.cell 0
      have Rl1 : Hid (V2.cell? ⟨w.heap.size + 1 + 1, 1, none⟩ = some (.int .i64 b.te)) := H8l.out.cell 1
      have Rl2 : Hid (V2.cell? ⟨w.heap.size + 1 + 1, 2, none⟩ = some (.int .i64 b.de)) := H8l.out.cell 2
      have Rl3 : Hid (V2.cell? ⟨w.heap.size + 1 + 1, 3, none⟩ = some (.int .i64 b.fe)) := H8l.out.cell 3
      have Rl4 : Hid (V2.cell? ⟨w.heap.size + 1 + 1, 4, none⟩ = some (.int .i64 b.pr)) := H8l.out.cell 4
      have Rl5 : Hid (V2.cell? ⟨w.heap.size + 1 + 1, 5, none⟩ = some (.int .i64 b.ch)) := H8l.out.cell 5
      have Rl6 : Hid (V2.cell? ⟨w.heap.size + 1 + 1, 6, none⟩ = some (.int .i64 b.un)) := H8l.out.cell 6
      go_wp2_with fail
      exact bodyPost_ret (v := .tuple #[.agg #[.int .i64 y.me, .int .i64 y.rv, .int .i64 y.nx, .int .i64 y.mo, .int .i64 y.bo, .int .i64 y.fr, .slice q n c], .agg #[.int .i64 b.id, .int .i64 b.te, .int .i64 b.de, .int .i64 b.fe, .int .i64 b.pr, .int .i64 b.ch, .int .i64 b.un], .int .i64 0]) (by simp [results, Try.results9, Rr0.out, Rr1.out, Rr2.out, Rr3.out, Rr4.out, Rr5.out, Rr6.out, Rl0.out, Rl1.out, Rl2.out, Rl3.out, Rl4.out, Rl5.out, Rl6.out, go_sem]) rfl ⟨y, b, q, n, c, 0, rfl, HV.out, H8F.out.low (by omega), H8B.out⟩
    · have d0 : (f != 0) = true := by simpa using h0
      have HV : Hid (Is ac0 bi0 f) := by
        rcases HOR.out with ⟨_, h⟩ | ⟨h, _⟩
        · exact h
        · exact absurd h h0
      clear HOR h0
      go_wp2_with (first
        | (refine wp_letAll rfl 27 _ _ rfl (w.heap.size + 1) rfl #[.int .i64 0, .int .i64 0, .int .i64 0, .int .i64 0, .int .i64 0, .int .i64 0, .slice none 0 0] rfl (by kernel_rfl) (by simp [Value.oneCell']) #[.int .i64 0, .int .i64 0, .int .i64 0, .int .i64 0, .int .i64 0, .int .i64 0, .slice none 0 0] 27 H5r.out rfl ?_)
        | (refine wp_whole rfl 27 _ rfl (w.heap.size) rfl 27 #[.int .i64 x.me, .int .i64 x.rv, .int .i64 x.nx, .int .i64 x.mo, .int .i64 x.bo, .int .i64 x.fr, .slice p len cap] _ H5d.out Try.underlying27 rfl (by kernel_rfl) ?_)
        | (refine wp_whole rfl 27 _ rfl (w.heap.size + 1) rfl 27 #[.int .i64 0, .int .i64 0, .int .i64 0, .int .i64 0, .int .i64 0, .int .i64 0, .slice none 0 0] _ H5r.out Try.underlying27 rfl (by kernel_rfl) ?_)
        | (refine wp_whole rfl 37 _ rfl (w.heap.size + 1 + 1) rfl 37 #[.int .i64 0, .int .i64 0, .int .i64 0, .int .i64 0, .int .i64 0, .int .i64 0, .int .i64 0] _ H5l.out Try.underlying37 rfl (by kernel_rfl) ?_)
        | (refine wp_whole rfl 49 _ rfl (w1.heap.size) rfl 49 #[.int .i64 y.me, .int .i64 y.rv, .int .i64 y.nx, .int .i64 y.mo, .int .i64 y.bo, .int .i64 y.fr, .slice q n c, .int .i64 b.id, .int .i64 b.te, .int .i64 b.de, .int .i64 b.fe, .int .i64 b.pr, .int .i64 b.ch, .int .i64 b.un] _ H5n.out Try.underlying49 rfl (by kernel_rfl) ?_)
        | fail)
      intro w5a hU
      have H7d : Hid (Blk w5a (w.heap.size) #[.int .i64 x.me, .int .i64 x.rv, .int .i64 x.nx, .int .i64 x.mo, .int .i64 x.bo, .int .i64 x.fr, .slice p len cap] 27) := hU.keep H5d.out (by omega)
      have H7r : Hid (Blk w5a (w.heap.size + 1) #[.int .i64 0, .int .i64 0, .int .i64 0, .int .i64 0, .int .i64 0, .int .i64 0, .slice none 0 0] 27) := hU.blk
      have H7l : Hid (Blk w5a (w.heap.size + 1 + 1) #[.int .i64 0, .int .i64 0, .int .i64 0, .int .i64 0, .int .i64 0, .int .i64 0, .int .i64 0] 37) := hU.keep H5l.out (by omega)
      have H7n : Hid (Blk w5a (w1.heap.size) #[.int .i64 y.me, .int .i64 y.rv, .int .i64 y.nx, .int .i64 y.mo, .int .i64 y.bo, .int .i64 y.fr, .slice q n c, .int .i64 b.id, .int .i64 b.te, .int .i64 b.de, .int .i64 b.fe, .int .i64 b.pr, .int .i64 b.ch, .int .i64 b.un] 49) := hU.keep H5n.out (by omega)
      have H7B : Hid (Below w.heap.size w w5a) := hU.bel _ _ (by omega) H5B.out
      have hsw5a : w5a.heap.size = w5.heap.size := hU.size
      clear hU H5d H5r H5l H5n H5B
      go_wp2_with (first
        | (refine wp_letAll rfl 37 _ _ rfl (w.heap.size + 1 + 1) rfl #[.int .i64 0, .int .i64 0, .int .i64 0, .int .i64 0, .int .i64 0, .int .i64 0, .int .i64 0] rfl (by kernel_rfl) (by simp [Value.oneCell']) #[.int .i64 0, .int .i64 0, .int .i64 0, .int .i64 0, .int .i64 0, .int .i64 0, .int .i64 0] 37 H7l.out rfl ?_)
        | (refine wp_whole rfl 27 _ rfl (w.heap.size) rfl 27 #[.int .i64 x.me, .int .i64 x.rv, .int .i64 x.nx, .int .i64 x.mo, .int .i64 x.bo, .int .i64 x.fr, .slice p len cap] _ H7d.out Try.underlying27 rfl (by kernel_rfl) ?_)
        | (refine wp_whole rfl 27 _ rfl (w.heap.size + 1) rfl 27 #[.int .i64 0, .int .i64 0, .int .i64 0, .int .i64 0, .int .i64 0, .int .i64 0, .slice none 0 0] _ H7r.out Try.underlying27 rfl (by kernel_rfl) ?_)
        | (refine wp_whole rfl 37 _ rfl (w.heap.size + 1 + 1) rfl 37 #[.int .i64 0, .int .i64 0, .int .i64 0, .int .i64 0, .int .i64 0, .int .i64 0, .int .i64 0] _ H7l.out Try.underlying37 rfl (by kernel_rfl) ?_)
        | (refine wp_whole rfl 49 _ rfl (w1.heap.size) rfl 49 #[.int .i64 y.me, .int .i64 y.rv, .int .i64 y.nx, .int .i64 y.mo, .int .i64 y.bo, .int .i64 y.fr, .slice q n c, .int .i64 b.id, .int .i64 b.te, .int .i64 b.de, .int .i64 b.fe, .int .i64 b.pr, .int .i64 b.ch, .int .i64 b.un] _ H7n.out Try.underlying49 rfl (by kernel_rfl) ?_)
        | fail)
      intro w5ab hU
      have H8d : Hid (Blk w5ab (w.heap.size) #[.int .i64 x.me, .int .i64 x.rv, .int .i64 x.nx, .int .i64 x.mo, .int .i64 x.bo, .int .i64 x.fr, .slice p len cap] 27) := hU.keep H7d.out (by omega)
      have H8r : Hid (Blk w5ab (w.heap.size + 1) #[.int .i64 0, .int .i64 0, .int .i64 0, .int .i64 0, .int .i64 0, .int .i64 0, .slice none 0 0] 27) := hU.keep H7r.out (by omega)
      have H8l : Hid (Blk w5ab (w.heap.size + 1 + 1) #[.int .i64 0, .int .i64 0, .int .i64 0, .int .i64 0, .int .i64 0, .int .i64 0, .int .i64 0] 37) := hU.blk
      have H8n : Hid (Blk w5ab (w1.heap.size) #[.int .i64 y.me, .int .i64 y.rv, .int .i64 y.nx, .int .i64 y.mo, .int .i64 y.bo, .int .i64 y.fr, .slice q n c, .int .i64 b.id, .int .i64 b.te, .int .i64 b.de, .int .i64 b.fe, .int .i64 b.pr, .int .i64 b.ch, .int .i64 b.un] 49) := hU.keep H7n.out (by omega)
      have H8B : Hid (Below w.heap.size w w5ab) := hU.bel _ _ (by omega) H7B.out
      have hsw5ab : w5ab.heap.size = w5a.heap.size := hU.size
      clear hU H7d H7r H7l H7n H7B
      have Rr0 : Hid (w5ab.cell? ⟨w.heap.size + 1, 0, none⟩ = some (.int .i64 0)) := H8r.out.cell 0
      have Rr1 : Hid (w5ab.cell? ⟨w.heap.size + 1, 1, none⟩ = some (.int .i64 0)) := H8r.out.cell 1
      have Rr2 : Hid (w5ab.cell? ⟨w.heap.size + 1, 2, none⟩ = some (.int .i64 0)) := H8r.out.cell 2
      have Rr3 : Hid (w5ab.cell? ⟨w.heap.size + 1, 3, none⟩ = some (.int .i64 0)) := H8r.out.cell 3
      have Rr4 : Hid (w5ab.cell? ⟨w.heap.size + 1, 4, none⟩ = some (.int .i64 0)) := H8r.out.cell 4
      have Rr5 : Hid (w5ab.cell? ⟨w.heap.size + 1, 5, none⟩ = some (.int .i64 0)) := H8r.out.cell 5
      have Rr6 : Hid (w5ab.cell? ⟨w.heap.size + 1, 6, none⟩ = some (.slice none 0 0)) := H8r.out.cell 6
      have Rl0 : Hid (w5ab.cell? ⟨w.heap.size + 1 + 1, 0, none⟩ = some (.int .i64 0)) := H8l.out.cell 0
      have Rl1 : Hid (w5ab.cell? ⟨w.heap.size + 1 + 1, 1, none⟩ = some (.int .i64 0)) := H8l.out.cell 1
      have Rl2 : Hid (w5ab.cell? ⟨w.heap.size + 1 + 1, 2, none⟩ = some (.int .i64 0)) := H8l.out.cell 2
      have Rl3 : Hid (w5ab.cell? ⟨w.heap.size + 1 + 1, 3, none⟩ = some (.int .i64 0)) := H8l.out.cell 3
      have Rl4 : Hid (w5ab.cell? ⟨w.heap.size + 1 + 1, 4, none⟩ = some (.int .i64 0)) := H8l.out.cell 4
      have Rl5 : Hid (w5ab.cell? ⟨w.heap.size + 1 + 1, 5, none⟩ = some (.int .i64 0)) := H8l.out.cell 5
      have Rl6 : Hid (w5ab.cell? ⟨w.heap.size + 1 + 1, 6, none⟩ = some (.int .i64 0)) := H8l.out.cell 6
      go_wp2_with fail
      exact bodyPost_ret (v := .tuple #[.agg #[.int .i64 0, .int .i64 0, .int .i64 0, .int .i64 0, .int .i64 0, .int .i64 0, .slice none 0 0], .agg #[.int .i64 0, .int .i64 0, .int .i64 0, .int .i64 0, .int .i64 0, .int .i64 0, .int .i64 0], .int .i64 f]) (by simp [results, Try.results9, Rr0.out, Rr1.out, Rr2.out, Rr3.out, Rr4.out, Rr5.out, Rr6.out, Rl0.out, Rl1.out, Rl2.out, Rl3.out, Rl4.out, Rl5.out, Rl6.out, go_sem]) rfl ⟨ac0, bi0, none, 0, 0, _, rfl, HV.out, deb.fresh_nil _ _, H8B.out⟩

end Go.Proofs.Ytlolippocnngcac.acc
