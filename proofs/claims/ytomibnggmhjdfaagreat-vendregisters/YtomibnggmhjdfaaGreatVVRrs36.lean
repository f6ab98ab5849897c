import Derived.Test.YtomibnggmhjdfaaGreatVVRrs35
set_option linter.unusedVariables false
set_option linter.unusedSimpArgs false
namespace Go.Proofs.YtomibnggmhjdfaaGreat
namespace acc
open tar (Du du0 Came RowD Ld PairT)
open Go.RowKit
set_option maxRecDepth 100000
set_option maxHeartbeats 1000000 in
theorem psell1 (B0 B1 B2 g : Nat) (x : Ac) (p : Option Addr) (len cap : Nat) (t : Tm) (pt : Option Addr) (lt ct : Nat) (te m : Int) (w : World) (hB0 : Blk w B0 #[.slice pt lt ct, .int .i64 t.ff, .int .i64 t.fb, .int .i64 t.db, .int .i64 t.al] 24) (hB1 : Blk w B1 #[.int .i64 te] 3) (hB2 : Blk w B2 #[.int .i64 m] 3) (hw : Blk w g (wcs x bi0 p len cap) 121) (hd : deb.Fresh w (g + 1) p len cap x.ds) (ha : AMay x) (ht : Came w pt lt ct t.ts) (hwf : wf4 t) (hfar : Far pt lt g) : Calls Tryz.prog 108 #[.pointer (some ⟨g, 0, none⟩), .pointer (some ⟨B0, 0, none⟩), .pointer (some ⟨B1, 0, none⟩), .pointer (some ⟨B2, 0, none⟩)] w fun e w' => WPost w g (Or0 (SellIs x t te m)) e w' := by
 have HIN : Hid (Calls Tryz.prog 109 #[.pointer (some ⟨g, 0, none⟩), .agg #[.slice pt lt ct, .int .i64 t.ff, .int .i64 t.fb, .int .i64 t.db, .int .i64 t.al], .int .i64 te, .int .i64 m] w fun e w' => WPost w g (Or0 (SellIs x t te m)) e w') := (psell g x p len cap t pt lt ct te m w hw hd ha ht hwf hfar).mono fun e w' h => h.w (Nat.le_of_lt hw.lt)
 have HK0 : Hid (Blk w B0 #[.slice pt lt ct, .int .i64 t.ff, .int .i64 t.fb, .int .i64 t.db, .int .i64 t.al] 24) := hB0
 have HK1 : Hid (Blk w B1 #[.int .i64 te] 3) := hB1
 have qB1 : w.cell? ⟨B1, 0, none⟩ = some (.int .i64 te) := hB1.cell 0
 have HK2 : Hid (Blk w B2 #[.int .i64 m] 3) := hB2
 have qB2 : w.cell? ⟨B2, 0, none⟩ = some (.int .i64 m) := hB2.cell 0
 clear hw ha hd ht hwf hfar
 go_enter Tryz.func108, Tryz.ntmps108
 go_wp2_with (first | (refine zqw rfl rfl rfl HK0 zqu24 ?_) | fail)
 refine HIN.out.mono ?_
 rintro e w1 hx
 have HX : Hid (WPost w g (Or0 (SellIs x t te m)) e w1) := hx
 obtain ⟨y, b, q, n, c, f, rfl, _⟩ := hx
 clear HIN
 go_wp2_with fail
 go_ret
 exact HX.out
set_option maxHeartbeats 4000000 in
theorem ksell : KcSell := by
 intro w x p len cap t pt lt ct te m ha ht hte hm
 unfold Ac.v Ac.cs Tm.v
 have H0d : Hid (Blk ((((((w.alloc (.cells #[.int .i64 x.me, .int .i64 x.rv, .int .i64 x.nx, .int .i64 x.mo, .int .i64 x.bo, .int .i64 x.fr, .slice p len cap] 59)).alloc (.cells #[.slice pt lt ct, .int .i64 t.ff, .int .i64 t.fb, .int .i64 t.db, .int .i64 t.al] 24)).alloc (.cells #[.int .i64 te] 3)).alloc (.cells #[.int .i64 m] 3)).alloc (.cells #[.int .i64 0, .int .i64 0, .int .i64 0, .int .i64 0, .int .i64 0, .int .i64 0, .slice none 0 0] 59)).alloc (.cells #[.int .i64 0, .int .i64 0, .int .i64 0, .int .i64 0, .int .i64 0, .int .i64 0, .int .i64 0] 69)) (w.heap.size) #[.int .i64 x.me, .int .i64 x.rv, .int .i64 x.nx, .int .i64 x.mo, .int .i64 x.bo, .int .i64 x.fr, .slice p len cap] 59) := (((((Blk.new w _ _).alloc _).alloc _).alloc _).alloc _).alloc _
 have H0t : Hid (Blk ((((((w.alloc (.cells #[.int .i64 x.me, .int .i64 x.rv, .int .i64 x.nx, .int .i64 x.mo, .int .i64 x.bo, .int .i64 x.fr, .slice p len cap] 59)).alloc (.cells #[.slice pt lt ct, .int .i64 t.ff, .int .i64 t.fb, .int .i64 t.db, .int .i64 t.al] 24)).alloc (.cells #[.int .i64 te] 3)).alloc (.cells #[.int .i64 m] 3)).alloc (.cells #[.int .i64 0, .int .i64 0, .int .i64 0, .int .i64 0, .int .i64 0, .int .i64 0, .slice none 0 0] 59)).alloc (.cells #[.int .i64 0, .int .i64 0, .int .i64 0, .int .i64 0, .int .i64 0, .int .i64 0, .int .i64 0] 69)) (w.heap.size + 1) #[.slice pt lt ct, .int .i64 t.ff, .int .i64 t.fb, .int .i64 t.db, .int .i64 t.al] 24) := ((((Blk.new1 w _ _ _).alloc _).alloc _).alloc _).alloc _
 have H0e : Hid (Blk ((((((w.alloc (.cells #[.int .i64 x.me, .int .i64 x.rv, .int .i64 x.nx, .int .i64 x.mo, .int .i64 x.bo, .int .i64 x.fr, .slice p len cap] 59)).alloc (.cells #[.slice pt lt ct, .int .i64 t.ff, .int .i64 t.fb, .int .i64 t.db, .int .i64 t.al] 24)).alloc (.cells #[.int .i64 te] 3)).alloc (.cells #[.int .i64 m] 3)).alloc (.cells #[.int .i64 0, .int .i64 0, .int .i64 0, .int .i64 0, .int .i64 0, .int .i64 0, .slice none 0 0] 59)).alloc (.cells #[.int .i64 0, .int .i64 0, .int .i64 0, .int .i64 0, .int .i64 0, .int .i64 0, .int .i64 0] 69)) (w.heap.size + 1 + 1) #[.int .i64 te] 3) := (((Blk.new2 w _ _ _ _).alloc _).alloc _).alloc _
 have H0m : Hid (Blk ((((((w.alloc (.cells #[.int .i64 x.me, .int .i64 x.rv, .int .i64 x.nx, .int .i64 x.mo, .int .i64 x.bo, .int .i64 x.fr, .slice p len cap] 59)).alloc (.cells #[.slice pt lt ct, .int .i64 t.ff, .int .i64 t.fb, .int .i64 t.db, .int .i64 t.al] 24)).alloc (.cells #[.int .i64 te] 3)).alloc (.cells #[.int .i64 m] 3)).alloc (.cells #[.int .i64 0, .int .i64 0, .int .i64 0, .int .i64 0, .int .i64 0, .int .i64 0, .slice none 0 0] 59)).alloc (.cells #[.int .i64 0, .int .i64 0, .int .i64 0, .int .i64 0, .int .i64 0, .int .i64 0, .int .i64 0] 69)) (w.heap.size + 1 + 1 + 1) #[.int .i64 m] 3) := ((Blk.new3 w _ _ _ _ _).alloc _).alloc _
 have H0r : Hid (Blk ((((((w.alloc (.cells #[.int .i64 x.me, .int .i64 x.rv, .int .i64 x.nx, .int .i64 x.mo, .int .i64 x.bo, .int .i64 x.fr, .slice p len cap] 59)).alloc (.cells #[.slice pt lt ct, .int .i64 t.ff, .int .i64 t.fb, .int .i64 t.db, .int .i64 t.al] 24)).alloc (.cells #[.int .i64 te] 3)).alloc (.cells #[.int .i64 m] 3)).alloc (.cells #[.int .i64 0, .int .i64 0, .int .i64 0, .int .i64 0, .int .i64 0, .int .i64 0, .slice none 0 0] 59)).alloc (.cells #[.int .i64 0, .int .i64 0, .int .i64 0, .int .i64 0, .int .i64 0, .int .i64 0, .int .i64 0] 69)) (w.heap.size + 1 + 1 + 1 + 1) #[.int .i64 0, .int .i64 0, .int .i64 0, .int .i64 0, .int .i64 0, .int .i64 0, .slice none 0 0] 59) := (blk_new4 w _ _ _ _ _ _).alloc _
 have H0l : Hid (Blk ((((((w.alloc (.cells #[.int .i64 x.me, .int .i64 x.rv, .int .i64 x.nx, .int .i64 x.mo, .int .i64 x.bo, .int .i64 x.fr, .slice p len cap] 59)).alloc (.cells #[.slice pt lt ct, .int .i64 t.ff, .int .i64 t.fb, .int .i64 t.db, .int .i64 t.al] 24)).alloc (.cells #[.int .i64 te] 3)).alloc (.cells #[.int .i64 m] 3)).alloc (.cells #[.int .i64 0, .int .i64 0, .int .i64 0, .int .i64 0, .int .i64 0, .int .i64 0, .slice none 0 0] 59)).alloc (.cells #[.int .i64 0, .int .i64 0, .int .i64 0, .int .i64 0, .int .i64 0, .int .i64 0, .int .i64 0] 69)) (w.heap.size + 1 + 1 + 1 + 1 + 1) #[.int .i64 0, .int .i64 0, .int .i64 0, .int .i64 0, .int .i64 0, .int .i64 0, .int .i64 0] 69) := blk_new5 w _ _ _ _ _ _ _
 have H0B : Hid (Below w.heap.size w ((((((w.alloc (.cells #[.int .i64 x.me, .int .i64 x.rv, .int .i64 x.nx, .int .i64 x.mo, .int .i64 x.bo, .int .i64 x.fr, .slice p len cap] 59)).alloc (.cells #[.slice pt lt ct, .int .i64 t.ff, .int .i64 t.fb, .int .i64 t.db, .int .i64 t.al] 24)).alloc (.cells #[.int .i64 te] 3)).alloc (.cells #[.int .i64 m] 3)).alloc (.cells #[.int .i64 0, .int .i64 0, .int .i64 0, .int .i64 0, .int .i64 0, .int .i64 0, .slice none 0 0] 59)).alloc (.cells #[.int .i64 0, .int .i64 0, .int .i64 0, .int .i64 0, .int .i64 0, .int .i64 0, .int .i64 0] 69))) := ((((((Below.refl w.heap.size w).alloc (by simp) _).alloc (by simp) _).alloc (by simp; omega) _).alloc (by simp; omega) _).alloc (by simp; omega) _).alloc (by simp; omega) _
 have H0R : Hid (Came ((((((w.alloc (.cells #[.int .i64 x.me, .int .i64 x.rv, .int .i64 x.nx, .int .i64 x.mo, .int .i64 x.bo, .int .i64 x.fr, .slice p len cap] 59)).alloc (.cells #[.slice pt lt ct, .int .i64 t.ff, .int .i64 t.fb, .int .i64 t.db, .int .i64 t.al] 24)).alloc (.cells #[.int .i64 te] 3)).alloc (.cells #[.int .i64 m] 3)).alloc (.cells #[.int .i64 0, .int .i64 0, .int .i64 0, .int .i64 0, .int .i64 0, .int .i64 0, .slice none 0 0] 59)).alloc (.cells #[.int .i64 0, .int .i64 0, .int .i64 0, .int .i64 0, .int .i64 0, .int .i64 0, .int .i64 0] 69)) p len cap x.ds) := ha.ds.below H0B.out
 have hs0 : w.heap.size + 1 + 1 + 1 + 1 + 1 < ((((((w.alloc (.cells #[.int .i64 x.me, .int .i64 x.rv, .int .i64 x.nx, .int .i64 x.mo, .int .i64 x.bo, .int .i64 x.fr, .slice p len cap] 59)).alloc (.cells #[.slice pt lt ct, .int .i64 t.ff, .int .i64 t.fb, .int .i64 t.db, .int .i64 t.al] 24)).alloc (.cells #[.int .i64 te] 3)).alloc (.cells #[.int .i64 m] 3)).alloc (.cells #[.int .i64 0, .int .i64 0, .int .i64 0, .int .i64 0, .int .i64 0, .int .i64 0, .slice none 0 0] 59)).alloc (.cells #[.int .i64 0, .int .i64 0, .int .i64 0, .int .i64 0, .int .i64 0, .int .i64 0, .int .i64 0] 69)).heap.size := H0l.out.lt
 generalize hWW : ((((((w.alloc (.cells #[.int .i64 x.me, .int .i64 x.rv, .int .i64 x.nx, .int .i64 x.mo, .int .i64 x.bo, .int .i64 x.fr, .slice p len cap] 59)).alloc (.cells #[.slice pt lt ct, .int .i64 t.ff, .int .i64 t.fb, .int .i64 t.db, .int .i64 t.al] 24)).alloc (.cells #[.int .i64 te] 3)).alloc (.cells #[.int .i64 m] 3)).alloc (.cells #[.int .i64 0, .int .i64 0, .int .i64 0, .int .i64 0, .int .i64 0, .int .i64 0, .slice none 0 0] 59)).alloc (.cells #[.int .i64 0, .int .i64 0, .int .i64 0, .int .i64 0, .int .i64 0, .int .i64 0, .int .i64 0] 69)) = W0 at *
 have HWW : Hid (((((((w.alloc (.cells #[.int .i64 x.me, .int .i64 x.rv, .int .i64 x.nx, .int .i64 x.mo, .int .i64 x.bo, .int .i64 x.fr, .slice p len cap] 59)).alloc (.cells #[.slice pt lt ct, .int .i64 t.ff, .int .i64 t.fb, .int .i64 t.db, .int .i64 t.al] 24)).alloc (.cells #[.int .i64 te] 3)).alloc (.cells #[.int .i64 m] 3)).alloc (.cells #[.int .i64 0, .int .i64 0, .int .i64 0, .int .i64 0, .int .i64 0, .int .i64 0, .slice none 0 0] 59)).alloc (.cells #[.int .i64 0, .int .i64 0, .int .i64 0, .int .i64 0, .int .i64 0, .int .i64 0, .int .i64 0] 69)) = W0) := hWW
 clear hWW
 go_enter Tryz.func102, Tryz.ntmps102
 go_upto_region 1 with fail
 rw [HWW.out]
 clear HWW
 have HXt : Hid (∀ W, Below W0.heap.size W0 W → Blk W (w.heap.size + 1) #[.slice pt lt ct, .int .i64 t.ff, .int .i64 t.fb, .int .i64 t.db, .int .i64 t.al] 24) := fun W hW => H0t.out.next hW
 have HXe : Hid (∀ W, Below W0.heap.size W0 W → Blk W (w.heap.size + 1 + 1) #[.int .i64 te] 3) := fun W hW => H0e.out.next hW
 have HXm : Hid (∀ W, Below W0.heap.size W0 W → Blk W (w.heap.size + 1 + 1 + 1) #[.int .i64 m] 3) := fun W hW => H0m.out.next hW
 have HTC : Hid (Came w pt lt ct t.ts) := ht.ts
 have HBW : Hid (Below w.heap.size w W0) := H0B.out
 have hbw : w.heap.size ≤ W0.heap.size := H0B.out.size
 have HWK : Hid (Calls Tryz.prog 44 #[.agg #[.int .i64 x.me, .int .i64 x.rv, .int .i64 x.nx, .int .i64 x.mo, .int .i64 x.bo, .int .i64 x.fr, .slice p len cap], .func (.func 108) #[] #[.pointer (some ⟨w.heap.size + 1, 0, none⟩), .pointer (some ⟨w.heap.size + 1 + 1, 0, none⟩), .pointer (some ⟨w.heap.size + 1 + 1 + 1, 0, none⟩)]] W0 fun e w' => BPost W0 (SellIs x t te m) e w') := by
  refine pwork 108 #[.pointer (some ⟨w.heap.size + 1, 0, none⟩), .pointer (some ⟨w.heap.size + 1 + 1, 0, none⟩), .pointer (some ⟨w.heap.size + 1 + 1 + 1, 0, none⟩)] (SellIs x t te m) x p len cap W0 H0R.out (fun h => .inl ⟨.inl ⟨h, rfl⟩, rfl, rfl⟩) (fun _ _ => by kernel_rfl) ?_
  intro hm W g p' cap' hB hg hblk hld
  have HFR : deb.Fresh W (g + 1) p' len cap' x.ds := by
   obtain ⟨a0, c0, hv, hfr⟩ := deb.ld_fresh hld hm.1
   injection hv with h1 h2 h3
   rw [h1, h2, h3]; exact hfr
  have hfar : Far pt lt g := fun hn y hy => by have := came_lt HTC.out hn y hy; omega
  exact psell1 _ _ _ g x p' len cap' t pt lt ct te m W (HXt.out W hB) (HXe.out W hB) (HXm.out W hB) hblk HFR hm (HTC.out.below (HBW.out.trans (hB.mono hbw))) ht.wf hfar
 clear ha ht HXt HXe HXm
 go_wp2_with (first
  | (refine zqw rfl rfl rfl H0d zqu59 ?_)
  | (refine zqw rfl rfl rfl H0t zqu24 ?_)
  | (refine wp_whole rfl 3 _ rfl _ rfl 3 _ _ H0e.out Tryz.underlying3 rfl (by kernel_rfl) ?_)
  | (refine wp_whole rfl 3 _ rfl _ rfl 3 _ _ H0m.out Tryz.underlying3 rfl (by kernel_rfl) ?_)
  | (refine zqw rfl rfl rfl H0r zqu59 ?_)
  | (refine zqw rfl rfl rfl H0l zqu69 ?_)
  | fail)
 refine HWK.out.mono ?_
 rintro e w1 ⟨b, l, pr, lr, cr, fz, rfl, hi, hf, hb1⟩
 have H1d := shN H0d hb1
 have H1t := shN H0t hb1
 have H1e := shN H0e hb1
 have H1m := shN H0m hb1
 have H1r := shN H0r hb1
 have H1l := shN H0l hb1
 have H1R : Hid (Came w1 p len cap x.ds) := H0R.out.below hb1
 have H1B := shB H0B hb1
 have hsw1 : W0.heap.size ≤ w1.heap.size := hb1.size
 clear hb1 H0d H0t H0e H0m H0r H0l H0R H0B
 unfold Ac.v Ac.cs Bi.v
 clear HWK
 have H2F : Hid (deb.Fresh w1 W0.heap.size pr lr cr b.ds) := hf
 have HUPF : Hid (0 < lr → ∀ y, pr = some y → y.block < w1.heap.size) := came_lt H2F.out.came
 have HV : Hid (SellIs x t te m b l fz) := hi
 clear hf hi
 go_wp2_with (first
  | (refine zql rfl rfl rfl rfl zqu59 (by simp [Value.oneCell']) H1r rfl ?_)
  | (refine zqw rfl rfl rfl H1d zqu59 ?_)
  | (refine zqw rfl rfl rfl H1t zqu24 ?_)
  | (refine wp_whole rfl 3 _ rfl _ rfl 3 _ _ H1e.out Tryz.underlying3 rfl (by kernel_rfl) ?_)
  | (refine wp_whole rfl 3 _ rfl _ rfl 3 _ _ H1m.out Tryz.underlying3 rfl (by kernel_rfl) ?_)
  | (refine zqw rfl rfl rfl H1r zqu59 ?_)
  | (refine zqw rfl rfl rfl H1l zqu69 ?_)
  | fail)
 intro W4 hU
 have H3d := shK hU H1d (by omega)
 have H3t := shK hU H1t (by omega)
 have H3e := shK hU H1e (by omega)
 have H3m := shK hU H1m (by omega)
 have H3r : Hid (Blk W4 (w.heap.size + 1 + 1 + 1 + 1) #[.int .i64 b.me, .int .i64 b.rv, .int .i64 b.nx, .int .i64 b.mo, .int .i64 b.bo, .int .i64 b.fr, .slice pr lr cr] 59) := hU.blk
 have H3l := shK hU H1l (by omega)
 have H3F : Hid (deb.Fresh W4 W0.heap.size pr lr cr b.ds) := fresh_updN H2F.out hU (fun hn y hy => by have f1 := H2F.out.new hn y hy; have f2 := HUPF.out hn y hy; omega)
 have H3B := shV hU H1B (by omega)
 have hsW4 : W4.heap.size = w1.heap.size := hU.size
 clear hU H1d H1t H1e H1m H1r H1l H2F H1B
 go_wp2_with (first
  | (refine zql rfl rfl rfl rfl zqu69 (by simp [Value.oneCell']) H3l rfl ?_)
  | (refine zqw rfl rfl rfl H3d zqu59 ?_)
  | (refine zqw rfl rfl rfl H3t zqu24 ?_)
  | (refine wp_whole rfl 3 _ rfl _ rfl 3 _ _ H3e.out Tryz.underlying3 rfl (by kernel_rfl) ?_)
  | (refine wp_whole rfl 3 _ rfl _ rfl 3 _ _ H3m.out Tryz.underlying3 rfl (by kernel_rfl) ?_)
  | (refine zqw rfl rfl rfl H3r zqu59 ?_)
  | (refine zqw rfl rfl rfl H3l zqu69 ?_)
  | fail)
 intro W5 hU
 have H4d := shK hU H3d (by omega)
 have H4t := shK hU H3t (by omega)
 have H4e := shK hU H3e (by omega)
 have H4m := shK hU H3m (by omega)
 have H4r := shK hU H3r (by omega)
 have H4l : Hid (Blk W5 (w.heap.size + 1 + 1 + 1 + 1 + 1) #[.int .i64 l.id, .int .i64 l.te, .int .i64 l.de, .int .i64 l.fe, .int .i64 l.pr, .int .i64 l.ch, .int .i64 l.un] 69) := hU.blk
 have H4F : Hid (deb.Fresh W5 W0.heap.size pr lr cr b.ds) := fresh_updN H3F.out hU (fun hn y hy => by have f1 := H3F.out.new hn y hy; have f2 := HUPF.out hn y hy; omega)
 have H4B := shV hU H3B (by omega)
 have hsW5 : W5.heap.size = W4.heap.size := hU.size
 clear hU H3d H3t H3e H3m H3r H3l H3F H3B
 obtain ⟨Rr0, Rr1, Rr2, Rr3, Rr4, Rr5, Rr6⟩ := shc7 H4r
 obtain ⟨Rl0, Rl1, Rl2, Rl3, Rl4, Rl5, Rl6⟩ := shc7 H4l
 go_wp2_with fail
 exact bodyPost_ret (v := .tuple #[.agg #[.int .i64 b.me, .int .i64 b.rv, .int .i64 b.nx, .int .i64 b.mo, .int .i64 b.bo, .int .i64 b.fr, .slice pr lr cr], .agg #[.int .i64 l.id, .int .i64 l.te, .int .i64 l.de, .int .i64 l.fe, .int .i64 l.pr, .int .i64 l.ch, .int .i64 l.un], .int .i64 fz]) (by simp [results, Tryz.results102, Rr0.out, Rr1.out, Rr2.out, Rr3.out, Rr4.out, Rr5.out, Rr6.out, Rl0.out, Rl1.out, Rl2.out, Rl3.out, Rl4.out, Rl5.out, Rl6.out, go_sem]) rfl ⟨b, l, pr, lr, cr, fz, rfl, HV.out, H4F.out.low (by omega), H4B.out⟩
set_option maxHeartbeats 4000000 in
theorem pgrant (g : Nat) (x : Ac) (p : Option Addr) (len cap : Nat) (t : Tm) (pt : Option Addr) (lt ct : Nat) (m : Int) (w : World) (hw : Blk w g (wcs x bi0 p len cap) 121) (hd : deb.Fresh w (g + 1) p len cap x.ds) (ha : AMay x) (ht : Came w pt lt ct t.ts) (hwf : wf4 t) (hfar : Far pt lt g) : Calls Tryz.prog 111 #[.pointer (some ⟨g, 0, none⟩), .agg #[.slice pt lt ct, .int .i64 t.ff, .int .i64 t.fb, .int .i64 t.db, .int .i64 t.al], .int .i64 m] w fun e w' => DPost w g (Or0 (GrantIs x t m)) e w' := by
 have hgl := hw.lt
 have H0B : Hid (Below w.heap.size w (w.alloc (.cells #[.slice pt lt ct, .int .i64 t.ff, .int .i64 t.fb, .int .i64 t.db, .int .i64 t.al] 24))) := (Below.refl w.heap.size w).alloc (by simp) _
 have H0C : Hid (Chg w (w.alloc (.cells #[.slice pt lt ct, .int .i64 t.ff, .int .i64 t.fb, .int .i64 t.db, .int .i64 t.al] 24)) g) := .of H0B.out
 have H0t : Hid (Blk (w.alloc (.cells #[.slice pt lt ct, .int .i64 t.ff, .int .i64 t.fb, .int .i64 t.db, .int .i64 t.al] 24)) (w.heap.size) #[.slice pt lt ct, .int .i64 t.ff, .int .i64 t.fb, .int .i64 t.db, .int .i64 t.al] 24) := Blk.new w _ _
 have H0g : Hid (Blk (w.alloc (.cells #[.slice pt lt ct, .int .i64 t.ff, .int .i64 t.fb, .int .i64 t.db, .int .i64 t.al] 24)) g (wcs x bi0 p len cap) 121) := hw.alloc _
 have H0D : Hid (deb.Fresh (w.alloc (.cells #[.slice pt lt ct, .int .i64 t.ff, .int .i64 t.fb, .int .i64 t.db, .int .i64 t.al] 24)) (g + 1) p len cap x.ds) := hd.below H0B.out
 have H0T : Hid (Came (w.alloc (.cells #[.slice pt lt ct, .int .i64 t.ff, .int .i64 t.fb, .int .i64 t.db, .int .i64 t.al] 24)) pt lt ct t.ts) := ht.below H0B.out
 have HFAR : Hid (Far pt lt g) := hfar
 have HBG : Hid (∀ W, Blk W g (wcs x bi0 p len cap) 121 → deb.Fresh W (g + 1) p len cap x.ds → Came W pt lt ct t.ts → Calls Tryz.prog 113 #[.pointer (some ⟨g, 0, none⟩), .agg #[.slice pt lt ct, .int .i64 t.ff, .int .i64 t.fb, .int .i64 t.db, .int .i64 t.al], .int .i64 m] W fun e w' => DPost W g (BeginR x t m bi0) e w') := fun W h1 h2 h3 => pbegin g x p len cap t pt lt ct bi0 m W h1 h2 ha h3 hwf hfar
 have HM : Hid (AMay x) := ha
 have hnx := ha.2.2.2.1
 clear hw hd ht hwf hfar ha H0B
 generalize hWW : (w.alloc (.cells #[.slice pt lt ct, .int .i64 t.ff, .int .i64 t.fb, .int .i64 t.db, .int .i64 t.al] 24)) = W0 at *
 have HWW : Hid ((w.alloc (.cells #[.slice pt lt ct, .int .i64 t.ff, .int .i64 t.fb, .int .i64 t.db, .int .i64 t.al] 24)) = W0) := hWW
 clear hWW
 go_enter Tryz.func111, Tryz.ntmps111
 go_upto_region 1 with fail
 rw [HWW.out]
 clear HWW
 go_wp2_with (first | (refine zqw rfl rfl rfl H0t zqu24 ?_) | fail)
 refine (HBG.out _ H0g.out H0D.out H0T.out).mono ?_
 rintro e w1 ⟨y, b2, q, n, c, f, rfl, ⟨hr, hb2⟩, hi1, hf1, hc1⟩
 subst hb2
 have H1D : Hid (deb.Fresh w1 (g + 1) q n c y.ds) := hf1
 have H1g : Hid (Blk w1 g #[.int .i64 y.me, .int .i64 y.rv, .int .i64 y.nx, .int .i64 y.mo, .int .i64 y.bo, .int .i64 y.fr, .slice q n c, .int .i64 0, .int .i64 0, .int .i64 0, .int .i64 0, .int .i64 0, .int .i64 0, .int .i64 0] 121) := hi1
 have H1t : Hid (Blk w1 (w.heap.size) #[.slice pt lt ct, .int .i64 t.ff, .int .i64 t.fb, .int .i64 t.db, .int .i64 t.al] 24) := Chg.keep (g := g) (hc1) H0t.out (by omega)
 have H1T : Hid (Came w1 pt lt ct t.ts) := came_chg H0T.out (hc1) HFAR.out
 have H1C : Hid (Chg w w1 g) := H0C.out.trans (hc1)
 clear H0C H0g H0t H0T hf1 hc1 hi1 H0D HBG
 by_cases h0 : f = 0
 ·skip
  subst h0
  have hrr : TRight t ∧ RMay x m ∧ y = rolled x m := by
   rcases hr with ⟨h1, h2, _⟩ | ⟨_, _, h3, _⟩ | ⟨h1, h2, h3, _⟩
   ·exact absurd (h2.ok.1 rfl) h1
   ·exact absurd rfl h3.ne
   ·exact ⟨h1, h2, h3⟩
  have HRY : Hid (Ready x t m) := ⟨HM.out, hrr.1, hrr.2.1⟩
  have HT : Hid (TRight t) := hrr.1
  have HBR : Hid (y = rolled x m) := hrr.2.2
  have hbs := rolled_same x m
  rw [← hrr.2.2] at hbs
  have hbo := (rolled_may HM.out hrr.2.1).2.2.2.2.2.1
  rw [← hrr.2.2] at hbo
  have hdm : deb.Mays y.ds := by rw [hrr.2.2]; exact (rolled_may HM.out hrr.2.1).1
  have HYN : Hid (y.nx = x.nx) := hbs.2.2.1
  have hyx : 1 ≤ y.nx ∧ y.nx ≤ 1048576 := by rw [hbs.2.2.1]; exact hnx
  have HBS : Hid (y.me = x.me ∧ y.rv = x.rv ∧ y.nx = x.nx ∧ y.mo = m ∧ y.fr = x.fr) := hbs
  clear hrr hr hbs
  by_cases h5 : t.al = 0
  ·have d5 : (t.al == 0) = true := by simpa using h5
   have HV : Hid (Or0 (GrantIs x t m) y bi0 22) := .inl ⟨by decide, .inr (.inl ⟨HRY.out, h5, rfl, rfl, rfl⟩)⟩
   clear h5
   have qt4 : w1.cell? ⟨w.heap.size, 4, none⟩ = some (.int .i64 t.al) := H1t.out.cell 4
   go_wp2_with fail
   go_ret
   exact ⟨y, bi0, q, n, c, 22, rfl, HV.out, H1g.out, H1D.out, H1C.out⟩
  ·have d5 : (t.al == 0) = false := by simpa using h5
   by_cases h6 : x.fr = m
   ·have d6 : (y.fr == m) = true := by simp; rw [HBS.out.2.2.2.2]; exact h6
    have HV : Hid (Or0 (GrantIs x t m) y bi0 21) := .inl ⟨by decide, .inr (.inr (.inl ⟨HRY.out, h5, h6, rfl, rfl, rfl⟩))⟩
    clear h5 h6
    have qt4 : w1.cell? ⟨w.heap.size, 4, none⟩ = some (.int .i64 t.al) := H1t.out.cell 4
    have qg5 : w1.cell? ⟨g, 5, none⟩ = some (.int .i64 y.fr) := H1g.out.cell 5
    go_wp2_with fail
    go_ret
    exact ⟨y, bi0, q, n, c, 21, rfl, HV.out, H1g.out, H1D.out, H1C.out⟩
   ·have d6 : (y.fr == m) = false := by simp; rw [HBS.out.2.2.2.2]; exact h6
    have qt4 : w1.cell? ⟨w.heap.size, 4, none⟩ = some (.int .i64 t.al) := H1t.out.cell 4
    have qg5 : w1.cell? ⟨g, 5, none⟩ = some (.int .i64 y.fr) := H1g.out.cell 5
    go_wp2_with (first | (refine wp_let1 rfl 3 _ _ rfl g 5 rfl .i64 m rfl (by kernel_rfl) #[.int .i64 y.me, .int .i64 y.rv, .int .i64 y.nx, .int .i64 y.mo, .int .i64 y.bo, .int .i64 y.fr, .slice q n c, .int .i64 0, .int .i64 0, .int .i64 0, .int .i64 0, .int .i64 0, .int .i64 0, .int .i64 0] 121 H1g.out (by simp) ?_) | fail)
    intro W2 hU
    have H2g : Hid (Blk W2 g #[.int .i64 y.me, .int .i64 y.rv, .int .i64 y.nx, .int .i64 y.mo, .int .i64 y.bo, .int .i64 m, .slice q n c, .int .i64 0, .int .i64 0, .int .i64 0, .int .i64 0, .int .i64 0, .int .i64 0, .int .i64 0] 121) := hU.blk
    have H2t : Hid (Blk W2 (w.heap.size) #[.slice pt lt ct, .int .i64 t.ff, .int .i64 t.fb, .int .i64 t.db, .int .i64 t.al] 24) := Chg.keep (g := g) (.upd hU) H1t.out (by omega)
    have H2T : Hid (Came W2 pt lt ct t.ts) := came_chg H1T.out (.upd hU) HFAR.out
    have H2D : Hid (deb.Fresh W2 (g + 1) q n c y.ds) := fresh_chg H1D.out (.upd hU)
    have H2C : Hid (Chg w W2 g) := H1C.out.trans (.upd hU)
    clear H1C H1g H1t H1T H1D hU qt4 qg5 d5 d6
    have qt4 : W2.cell? ⟨w.heap.size, 4, none⟩ = some (.int .i64 t.al) := H2t.out.cell 4
    go_wp2_with (first | (refine wp_let1 rfl 3 _ _ rfl g 13 rfl .i64 t.al rfl (by kernel_rfl) #[.int .i64 y.me, .int .i64 y.rv, .int .i64 y.nx, .int .i64 y.mo, .int .i64 y.bo, .int .i64 m, .slice q n c, .int .i64 0, .int .i64 0, .int .i64 0, .int .i64 0, .int .i64 0, .int .i64 0, .int .i64 0] 121 H2g.out (by simp) ?_) | fail)
    intro W3 hU
    have H3g : Hid (Blk W3 g #[.int .i64 y.me, .int .i64 y.rv, .int .i64 y.nx, .int .i64 y.mo, .int .i64 y.bo, .int .i64 m, .slice q n c, .int .i64 0, .int .i64 0, .int .i64 0, .int .i64 0, .int .i64 0, .int .i64 0, .int .i64 t.al] 121) := hU.blk
    have H3t : Hid (Blk W3 (w.heap.size) #[.slice pt lt ct, .int .i64 t.ff, .int .i64 t.fb, .int .i64 t.db, .int .i64 t.al] 24) := Chg.keep (g := g) (.upd hU) H2t.out (by omega)
    have H3T : Hid (Came W3 pt lt ct t.ts) := came_chg H2T.out (.upd hU) HFAR.out
    have H3D : Hid (deb.Fresh W3 (g + 1) q n c y.ds) := fresh_chg H2D.out (.upd hU)
    have H3C : Hid (Chg w W3 g) := H2C.out.trans (.upd hU)
    clear H2C H2g H2t H2T H2D hU qt4
    have HGV : Hid (⟨y.me, y.rv, y.nx + 1, y.mo, y.bo, m, y.ds⟩ = granted x m) := by
     show _ = _
     unfold granted
     rw [← HBR.out, HBS.out.1, HBS.out.2.1, HBS.out.2.2.1, HBS.out.2.2.2.1]
    have HNU : Hid (Calls Tryz.prog 117 #[.pointer (some ⟨g, 0, none⟩)] W3 fun e w' => NumPost W3 g ⟨y.me, y.rv, y.nx, y.mo, y.bo, m, y.ds⟩ ⟨0, 0, 0, 0, 0, 0, t.al⟩ q n c e w') := pnum g ⟨y.me, y.rv, y.nx, y.mo, y.bo, m, y.ds⟩ ⟨0, 0, 0, 0, 0, 0, t.al⟩ q n c W3 H3g.out hyx
    go_wp2_with fail
    refine HNU.out.mono ?_
    rintro e wN ⟨hcN, ⟨hx, rfl, hiN⟩ | ⟨hx, rfl, hiN⟩⟩
    ·have HV : Hid (Or0 (GrantIs x t m) ⟨y.me, y.rv, y.nx, y.mo, y.bo, m, y.ds⟩ ⟨0, 0, 0, 0, 0, 0, t.al⟩ 20) := .inl ⟨by decide, .inr (.inr (.inr (.inl ⟨HRY.out, h5, h6, by rw [← HYN.out]; exact hx, rfl, rfl, rfl⟩)))⟩
     have HDN := fresh_chg H3D.out hcN
     have HCN := H3C.out.trans hcN
     clear HNU hx
     go_wp2_with fail
     go_ret
     exact ⟨⟨y.me, y.rv, y.nx, y.mo, y.bo, m, y.ds⟩, ⟨0, 0, 0, 0, 0, 0, t.al⟩, q, n, c, 20, rfl, HV.out, hiN, HDN, HCN⟩
    ·have HV : Hid (Or0 (GrantIs x t m) ⟨y.me, y.rv, y.nx + 1, y.mo, y.bo, m, y.ds⟩ ⟨y.nx, 0, 0, 0, 0, 0, t.al⟩ 0) := .inr ⟨rfl, .inr (.inr (.inr (.inr ⟨HRY.out, h5, h6, by rw [← HYN.out]; exact hx, rfl, HGV.out, by rw [HYN.out]⟩)))⟩
     have HDN := fresh_chg H3D.out hcN
     have HCN := H3C.out.trans hcN
     clear HNU hx
     go_wp2_with fail
     go_ret
     exact ⟨⟨y.me, y.rv, y.nx + 1, y.mo, y.bo, m, y.ds⟩, ⟨y.nx, 0, 0, 0, 0, 0, t.al⟩, q, n, c, 0, rfl, HV.out, hiN, HDN, HCN⟩
 ·skip
  have d0 : (f != 0) = true := by simpa using h0
  have HV : Hid (Or0 (GrantIs x t m) y bi0 f) := by
   refine .inl ⟨h0, .inl ⟨?_, rfl, rfl⟩⟩
   rcases hr with ⟨h1, h2, _⟩ | ⟨h1, h2, h3, _⟩ | ⟨_, _, _, h1⟩
   ·exact .inr (.inl ⟨HM.out, h1, h2⟩)
   ·exact .inr (.inr ⟨HM.out, h1, h2, h3⟩)
   ·exact absurd h1 h0
  clear hr h0
  go_wp2_with fail
  go_ret
  exact ⟨y, bi0, q, n, c, f, rfl, HV.out, H1g.out, H1D.out, H1C.out⟩
def KcGrant : Prop := ∀ (W : World) (x : Ac) (p : Option Addr) (len cap : Nat) (t : Tm) (pt : Option Addr) (lt ct : Nat) (m : Int), ACame W x p len cap → TCame W t pt lt ct → (Lit.int .i64 m).wf = true → Calls Tryz.prog 103 #[x.v p len cap, t.v pt lt ct, .int .i64 m] W fun e w' => BPost W (GrantIs x t m) e w'
set_option maxHeartbeats 1000000 in
theorem pgrant1 (B0 B1 g : Nat) (x : Ac) (p : Option Addr) (len cap : Nat) (t : Tm) (pt : Option Addr) (lt ct : Nat) (m : Int) (w : World) (hB0 : Blk w B0 #[.slice pt lt ct, .int .i64 t.ff, .int .i64 t.fb, .int .i64 t.db, .int .i64 t.al] 24) (hB1 : Blk w B1 #[.int .i64 m] 3) (hw : Blk w g (wcs x bi0 p len cap) 121) (hd : deb.Fresh w (g + 1) p len cap x.ds) (ha : AMay x) (ht : Came w pt lt ct t.ts) (hwf : wf4 t) (hfar : Far pt lt g) : Calls Tryz.prog 110 #[.pointer (some ⟨g, 0, none⟩), .pointer (some ⟨B0, 0, none⟩), .pointer (some ⟨B1, 0, none⟩)] w fun e w' => WPost w g (Or0 (GrantIs x t m)) e w' := by
 have HIN : Hid (Calls Tryz.prog 111 #[.pointer (some ⟨g, 0, none⟩), .agg #[.slice pt lt ct, .int .i64 t.ff, .int .i64 t.fb, .int .i64 t.db, .int .i64 t.al], .int .i64 m] w fun e w' => WPost w g (Or0 (GrantIs x t m)) e w') := (pgrant g x p len cap t pt lt ct m w hw hd ha ht hwf hfar).mono fun e w' h => h.w (Nat.le_of_lt hw.lt)
 have HK0 : Hid (Blk w B0 #[.slice pt lt ct, .int .i64 t.ff, .int .i64 t.fb, .int .i64 t.db, .int .i64 t.al] 24) := hB0
 have HK1 : Hid (Blk w B1 #[.int .i64 m] 3) := hB1
 have qB1 : w.cell? ⟨B1, 0, none⟩ = some (.int .i64 m) := hB1.cell 0
 clear hw ha hd ht hwf hfar
 go_enter Tryz.func110, Tryz.ntmps110
 go_wp2_with (first | (refine zqw rfl rfl rfl HK0 zqu24 ?_) | fail)
 refine HIN.out.mono ?_
 rintro e w1 hx
 have HX : Hid (WPost w g (Or0 (GrantIs x t m)) e w1) := hx
 obtain ⟨y, b, q, n, c, f, rfl, _⟩ := hx
 clear HIN
 go_wp2_with fail
 go_ret
 exact HX.out
set_option maxHeartbeats 4000000 in
theorem kgrant : KcGrant := by
 intro w x p len cap t pt lt ct m ha ht hm
 unfold Ac.v Ac.cs Tm.v
 obtain ⟨W0, HWW, H0d, H0t, H0m, H0r, H0l, H0B, hs0⟩ := sh5 w #[.int .i64 x.me, .int .i64 x.rv, .int .i64 x.nx, .int .i64 x.mo, .int .i64 x.bo, .int .i64 x.fr, .slice p len cap] 59 #[.slice pt lt ct, .int .i64 t.ff, .int .i64 t.fb, .int .i64 t.db, .int .i64 t.al] 24 #[.int .i64 m] 3 #[.int .i64 0, .int .i64 0, .int .i64 0, .int .i64 0, .int .i64 0, .int .i64 0, .slice none 0 0] 59 #[.int .i64 0, .int .i64 0, .int .i64 0, .int .i64 0, .int .i64 0, .int .i64 0, .int .i64 0] 69
 have H0R : Hid (Came W0 p len cap x.ds) := ha.ds.below H0B.out
 go_enter Tryz.func103, Tryz.ntmps103
 go_upto_region 1 with fail
 rw [HWW.out]
 clear HWW
 have HXt : Hid (∀ W, Below W0.heap.size W0 W → Blk W (w.heap.size + 1) #[.slice pt lt ct, .int .i64 t.ff, .int .i64 t.fb, .int .i64 t.db, .int .i64 t.al] 24) := fun W hW => H0t.out.next hW
 have HXm : Hid (∀ W, Below W0.heap.size W0 W → Blk W (w.heap.size + 1 + 1) #[.int .i64 m] 3) := fun W hW => H0m.out.next hW
 have HTC : Hid (Came w pt lt ct t.ts) := ht.ts
 have HBW : Hid (Below w.heap.size w W0) := H0B.out
 have hbw : w.heap.size ≤ W0.heap.size := H0B.out.size
 have HWK : Hid (Calls Tryz.prog 44 #[.agg #[.int .i64 x.me, .int .i64 x.rv, .int .i64 x.nx, .int .i64 x.mo, .int .i64 x.bo, .int .i64 x.fr, .slice p len cap], .func (.func 110) #[] #[.pointer (some ⟨w.heap.size + 1, 0, none⟩), .pointer (some ⟨w.heap.size + 1 + 1, 0, none⟩)]] W0 fun e w' => BPost W0 (GrantIs x t m) e w') := by
  refine pwork 110 #[.pointer (some ⟨w.heap.size + 1, 0, none⟩), .pointer (some ⟨w.heap.size + 1 + 1, 0, none⟩)] (GrantIs x t m) x p len cap W0 H0R.out (fun h => .inl ⟨.inl ⟨h, rfl⟩, rfl, rfl⟩) (fun _ _ => by kernel_rfl) ?_
  intro hm W g p' cap' hB hg hblk hld
  have HFR : deb.Fresh W (g + 1) p' len cap' x.ds := by
   obtain ⟨a0, c0, hv, hfr⟩ := deb.ld_fresh hld hm.1
   injection hv with h1 h2 h3
   rw [h1, h2, h3]; exact hfr
  have hfar : Far pt lt g := fun hn y hy => by have := came_lt HTC.out hn y hy; omega
  exact pgrant1 _ _ g x p' len cap' t pt lt ct m W (HXt.out W hB) (HXm.out W hB) hblk HFR hm (HTC.out.below (HBW.out.trans (hB.mono hbw))) ht.wf hfar
 clear ha ht HXt HXm
 go_wp2_with (first
  | (refine zqw rfl rfl rfl H0d zqu59 ?_)
  | (refine zqw rfl rfl rfl H0t zqu24 ?_)
  | (refine wp_whole rfl 3 _ rfl _ rfl 3 _ _ H0m.out Tryz.underlying3 rfl (by kernel_rfl) ?_)
  | (refine zqw rfl rfl rfl H0r zqu59 ?_)
  | (refine zqw rfl rfl rfl H0l zqu69 ?_)
  | fail)
 refine HWK.out.mono ?_
 rintro e w1 ⟨b, l, pr, lr, cr, fz, rfl, hi, hf, hb1⟩
 have H1d := shN H0d hb1
 have H1t := shN H0t hb1
 have H1m := shN H0m hb1
 have H1r := shN H0r hb1
 have H1l := shN H0l hb1
 have H1R : Hid (Came w1 p len cap x.ds) := H0R.out.below hb1
 have H1B := shB H0B hb1
 have hsw1 : W0.heap.size ≤ w1.heap.size := hb1.size
 clear hb1 H0d H0t H0m H0r H0l H0R H0B
 unfold Ac.v Ac.cs Bi.v
 clear HWK
 have H2F : Hid (deb.Fresh w1 W0.heap.size pr lr cr b.ds) := hf
 have HUPF : Hid (0 < lr → ∀ y, pr = some y → y.block < w1.heap.size) := came_lt H2F.out.came
 have HV : Hid (GrantIs x t m b l fz) := hi
 clear hf hi
 go_wp2_with (first
  | (refine zql rfl rfl rfl rfl zqu59 (by simp [Value.oneCell']) H1r rfl ?_)
  | (refine zqw rfl rfl rfl H1d zqu59 ?_)
  | (refine zqw rfl rfl rfl H1t zqu24 ?_)
  | (refine wp_whole rfl 3 _ rfl _ rfl 3 _ _ H1m.out Tryz.underlying3 rfl (by kernel_rfl) ?_)
  | (refine zqw rfl rfl rfl H1r zqu59 ?_)
  | (refine zqw rfl rfl rfl H1l zqu69 ?_)
  | fail)
 intro W4 hU
 have H3d := shK hU H1d (by omega)
 have H3t := shK hU H1t (by omega)
 have H3m := shK hU H1m (by omega)
 have H3r : Hid (Blk W4 (w.heap.size + 1 + 1 + 1) #[.int .i64 b.me, .int .i64 b.rv, .int .i64 b.nx, .int .i64 b.mo, .int .i64 b.bo, .int .i64 b.fr, .slice pr lr cr] 59) := hU.blk
 have H3l := shK hU H1l (by omega)
 have H3F : Hid (deb.Fresh W4 W0.heap.size pr lr cr b.ds) := fresh_updN H2F.out hU (fun hn y hy => by have f1 := H2F.out.new hn y hy; have f2 := HUPF.out hn y hy; omega)
 have H3B := shV hU H1B (by omega)
 have hsW4 : W4.heap.size = w1.heap.size := hU.size
 clear hU H1d H1t H1m H1r H1l H2F H1B
 go_wp2_with (first
  | (refine zql rfl rfl rfl rfl zqu69 (by simp [Value.oneCell']) H3l rfl ?_)
  | (refine zqw rfl rfl rfl H3d zqu59 ?_)
  | (refine zqw rfl rfl rfl H3t zqu24 ?_)
  | (refine wp_whole rfl 3 _ rfl _ rfl 3 _ _ H3m.out Tryz.underlying3 rfl (by kernel_rfl) ?_)
  | (refine zqw rfl rfl rfl H3r zqu59 ?_)
  | (refine zqw rfl rfl rfl H3l zqu69 ?_)
  | fail)
 intro W5 hU
 have H4d := shK hU H3d (by omega)
 have H4t := shK hU H3t (by omega)
 have H4m := shK hU H3m (by omega)
 have H4r := shK hU H3r (by omega)
 have H4l : Hid (Blk W5 (w.heap.size + 1 + 1 + 1 + 1) #[.int .i64 l.id, .int .i64 l.te, .int .i64 l.de, .int .i64 l.fe, .int .i64 l.pr, .int .i64 l.ch, .int .i64 l.un] 69) := hU.blk
 have H4F : Hid (deb.Fresh W5 W0.heap.size pr lr cr b.ds) := fresh_updN H3F.out hU (fun hn y hy => by have f1 := H3F.out.new hn y hy; have f2 := HUPF.out hn y hy; omega)
 have H4B := shV hU H3B (by omega)
 have hsW5 : W5.heap.size = W4.heap.size := hU.size
 clear hU H3d H3t H3m H3r H3l H3F H3B
 obtain ⟨Rr0, Rr1, Rr2, Rr3, Rr4, Rr5, Rr6⟩ := shc7 H4r
 obtain ⟨Rl0, Rl1, Rl2, Rl3, Rl4, Rl5, Rl6⟩ := shc7 H4l
 go_wp2_with fail
 exact bodyPost_ret (v := .tuple #[.agg #[.int .i64 b.me, .int .i64 b.rv, .int .i64 b.nx, .int .i64 b.mo, .int .i64 b.bo, .int .i64 b.fr, .slice pr lr cr], .agg #[.int .i64 l.id, .int .i64 l.te, .int .i64 l.de, .int .i64 l.fe, .int .i64 l.pr, .int .i64 l.ch, .int .i64 l.un], .int .i64 fz]) (by simp [results, Tryz.results103, Rr0.out, Rr1.out, Rr2.out, Rr3.out, Rr4.out, Rr5.out, Rr6.out, Rl0.out, Rl1.out, Rl2.out, Rl3.out, Rl4.out, Rl5.out, Rl6.out, go_sem]) rfl ⟨b, l, pr, lr, cr, fz, rfl, HV.out, H4F.out.low (by omega), H4B.out⟩
def KcRekey : Prop := ∀ (W : World) (x : Ac) (p : Option Addr) (len cap : Nat), ACame W x p len cap → Calls Tryz.prog 104 #[x.v p len cap] W fun e w' => BPost W (RekeyIs x) e w'
end acc
end Go.Proofs.YtomibnggmhjdfaaGreat
