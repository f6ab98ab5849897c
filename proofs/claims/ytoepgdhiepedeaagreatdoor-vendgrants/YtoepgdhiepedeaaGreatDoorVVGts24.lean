import Derived.Test.YtoepgdhiepedeaaGreatDoorVVGts17
import Derived.Test.YtoepgdhiepedeaaGreatDoorVVGts22
set_option linter.unusedVariables false
set_option linter.unusedSimpArgs false
set_option maxHeartbeats 4000000
set_option maxRecDepth 100000
namespace Go.Proofs.YtoepgdhiepedeaaGreatDoor
namespace book
open Go.RowKit
open acc (Ac Tm Bi APost BPost OweIs SellIs GrantIs RekeyIs)
set_option maxRecDepth 100000
set_option maxHeartbeats 4000000 in
theorem rhap5(a : Ac)(sol : List So)(dp : Option Addr)(dn dc : Nat)(sp : Option Addr)(sn sc : Nat)(t : Tm)(pt : Option Addr)(lt ct : Nat)(v : Ev)(base : Nat)(w : World)(hx : Has w base (cuA a dp dn dc sp sn sc) ⟨a, sol⟩)(ht : tar.RowD w pt lt t.ts)(htl : lt ≤ maxLen)(hbase : base ≤ w.heap.size)(hkd : v.kd = 5):
  Calls Tryz.prog 85 #[.agg #[.slice pt lt ct, .int .i64 t.ff, .int .i64 t.fb, .int .i64 t.db, .int .i64 t.al], .agg #[.int .i64 a.me, .int .i64 a.rv, .int .i64 a.nx, .int .i64 a.mo, .int .i64 a.bo, .int .i64 a.fr, .slice dp dn dc, .slice sp sn sc], .agg #[.int .i64 v.kd, .int .i64 v.me, .int .i64 v.mo, .int .i64 v.id, .int .i64 v.te, .int .i64 v.de, .int .i64 v.fe, .int .i64 v.pr, .int .i64 v.ch, .int .i64 v.un, .int .i64 v.tg, .int .i64 v.ow, .int .i64 v.bp]] w λe w' => HapPost w base t (cuA a dp dn dc sp sn sc) ⟨a, sol⟩ v e w' := by
 have n5 : (v.kd==5) = true := by simpa using hkd
 have HKD := zh hkd
 clear hkd
 have HB0 : Hid (zB w w) := zb
 have HH := zh hx
 have HBS := zh hbase
 have HOW : Hid (∀W, zB w W → zC 133 #[.agg #[.int .i64 a.me, .int .i64 a.rv, .int .i64 a.nx, .int .i64 a.mo, .int .i64 a.bo, .int .i64 a.fr, .slice dp dn dc], .agg #[.int .i64 v.ow, .int .i64 v.bp]] W λe w' => APost W (OweIs a ⟨v.ow, v.bp⟩) e w') := λW hB => acc.rowes a dp dn dc ⟨v.ow, v.bp⟩ W (hx.ds.came.below hB).row hx.ds.came.most
 clear hx ht htl hbase
 obtain⟨W0, HWW, Ht4, Qx, Qv, Qr, HB4, hz0⟩ := sh4 w #[.slice pt lt ct, .int .i64 t.ff, .int .i64 t.fb, .int .i64 t.db, .int .i64 t.al] 24 #[.int .i64 a.me, .int .i64 a.rv, .int .i64 a.nx, .int .i64 a.mo, .int .i64 a.bo, .int .i64 a.fr, .slice dp dn dc, .slice sp sn sc] 71 #[.int .i64 v.kd, .int .i64 v.me, .int .i64 v.mo, .int .i64 v.id, .int .i64 v.te, .int .i64 v.de, .int .i64 v.fe, .int .i64 v.pr, .int .i64 v.ch, .int .i64 v.un, .int .i64 v.tg, .int .i64 v.ow, .int .i64 v.bp] 44 #[.int .i64 0, .int .i64 0, .int .i64 0, .int .i64 0, .int .i64 0, .int .i64 0, .slice none 0 0, .slice none 0 0] 71
 go_enter Tryz.func85, Tryz.ntmps85
 go_upto_region 1 with fail
 rw[HWW.out]
 have HS0 := zh hz0
 clear hz0
 have kx0 := Qx.out.cell 0
 have kx1 := Qx.out.cell 1
 have kx2 := Qx.out.cell 2
 have kx3 := Qx.out.cell 3
 have kx4 := Qx.out.cell 4
 have kx5 := Qx.out.cell 5
 have kx6 := Qx.out.cell 6
 have kx7 := Qx.out.cell 7
 have kv0 := Qv.out.cell 0
 have kv1 := Qv.out.cell 1
 have kv2 := Qv.out.cell 2
 have kv3 := Qv.out.cell 3
 have kv4 := Qv.out.cell 4
 have kv5 := Qv.out.cell 5
 have kv6 := Qv.out.cell 6
 have kv7 := Qv.out.cell 7
 have kv8 := Qv.out.cell 8
 have kv9 := Qv.out.cell 9
 have kv10 := Qv.out.cell 10
 have kv11 := Qv.out.cell 11
 have kv12 := Qv.out.cell 12
 have HO1 := zh (HOW.out W0 HB4.out)
 go_wp2_with fail
 refine HO1.out.mono ?_
 rintro e w1 ⟨b, pb, lb, cb, f, rfl, hi, hf, hb1⟩
 have HI := zh hi
 obtain⟨Ht5, Hx5, Hv5, Hr5⟩ := zn4 hb1 Ht4 Qx Qv Qr
 have HB5 := shB HB4 hb1
 have HF1 := zh hf
 have HW0 := zh HB4.out.size
 clear hb1 hf hi kx0 kx1 kx2 kx3 kx4 kx5 kx6 kx7 kv0 kv1 kv2 kv3 kv4 kv5 kv6 kv7 kv8 kv9 kv10 kv11 kv12
 unfold acc.Ac.v acc.Ac.cs
 obtain⟨W1, HWW, Ha6, HBB, -⟩ := sh1 w1 #[.int .i64 b.me, .int .i64 b.rv, .int .i64 b.nx, .int .i64 b.mo, .int .i64 b.bo, .int .i64 b.fr, .slice pb lb cb] 55
 obtain⟨Ht6, Hx6, Hv6, Hr6⟩ := zn4 HBB.out Ht5 Hx5 Hv5 Hr5
 have HB6 := shB HB5 HBB.out
 have HF2 := zh (HF1.out.below HBB.out)
 go_upto_region 3 with fail
 rw[HWW.out]
 generalize hga : w1.heap.size = ga at *
 obtain⟨ka0, ka1, ka2, ka3, ka4, ka5, ka6⟩ := scl7 Ha6
 obtain⟨kx0, kx1, kx2, kx3, kx4, kx5, kx6, kx7⟩ := scl8 Hx6
 go_wp2_with refine zs ?_
 intro W2 hU
 have HR2 := zh hU.blk
 have HB9 := zk hU HB6
 have HUU := zh hU
 clear hU ka0 ka1 ka2 ka3 ka4 ka5 ka6 kx0 kx1 kx2 kx3 kx4 kx5 kx6 kx7
 obtain⟨R0, R1, R2, R3, R4, R5, R6, R7⟩ := shc8 HR2
 have HFIN : Hid (HapPost w base t (cuA a dp dn dc sp sn sc) ⟨a, sol⟩ v (.returned (.tuple #[.agg #[.int .i64 b.me, .int .i64 b.rv, .int .i64 b.nx, .int .i64 b.mo, .int .i64 b.bo, .int .i64 b.fr, .slice pb lb cb, .slice sp sn sc], .int .i64 f])) W2) := by
  refine⟨cuA b pb lb cb sp sn sc, ⟨b, sol⟩, f, rfl, .inl ⟨HKD.out, b, HI.out, λ_ => rfl⟩, λ_ => ?_, grown_of HB9.out _⟩
  have hbl := HF2.out.new
  refine⟨grown_of HB9.out _, ⟨cuA_num _ _ _ _ _ _ _, ⟨?_, λhn y hy => ?_⟩, HH.out.so.next HB9.out⟩, λg hg => .inl hg, λhn y hy => Nat.le_trans HW0.out (hbl hn y hy), λg hg hn y hy q => ?_⟩
  ·refine acc_upd HF2.out.came HUU.out (λhn y hy q => ?_)
   have h1 := hbl hn y hy
   have h2 := HS0.out
   omega
  ·have h1 := hbl hn y hy
   have h2 := HW0.out
   have h3 := HBS.out
   omega
  ·have h1 := hbl hn y hy
   have h2 := HW0.out
   have h3 := (World.ownsRow.lt HH.out.so g hg).2
   omega
 go_wp2_with fail
 exact zr (.tuple #[.agg #[.int .i64 b.me, .int .i64 b.rv, .int .i64 b.nx, .int .i64 b.mo, .int .i64 b.bo, .int .i64 b.fr, .slice pb lb cb, .slice sp sn sc], .int .i64 f]) (by simp[results, Tryz.results85, R0.out, R1.out, R2.out, R3.out, R4.out, R5.out, R6.out, R7.out, go_sem]) HFIN.out
end book
namespace acc
open tar (Du du0 Came RowD Ld PairT)
open Go.RowKit
set_option maxRecDepth 100000
set_option maxHeartbeats 8000000 in
theorem rrekeyed(x : Ac)(p : Option Addr)(len cap : Nat)(w : World)(h : RowD w p len x.ds)(hl : len ≤ maxLen): Calls Tryz.prog 24 #[.agg #[.int .i64 x.me, .int .i64 x.rv, .int .i64 x.nx, .int .i64 x.mo, .int .i64 x.bo, .int .i64 x.fr, .slice p len cap]] w λe w' => BPost w (RekeyIs x) e w' := by
 by_cases hm : AMay x
 ·have HM := zh hm
  have hdm := hm.1
  have hnx := hm.2.2.2.1
  have hrv := hm.2.2.1
  obtain⟨W0, HWW, H0d, H0r, H0l, H0B, hs0⟩ := sh3 w #[.int .i64 x.me, .int .i64 x.rv, .int .i64 x.nx, .int .i64 x.mo, .int .i64 x.bo, .int .i64 x.fr, .slice p len cap] 55 #[.int .i64 0, .int .i64 0, .int .i64 0, .int .i64 0, .int .i64 0, .int .i64 0, .slice none 0 0] 55 #[.int .i64 0, .int .i64 0, .int .i64 0, .int .i64 0, .int .i64 0, .int .i64 0, .int .i64 0] 33
  have H0R := zh (h.below H0B.out)
  go_enter Tryz.func24, Tryz.ntmps24
  go_upto_region 1 with fail
  rw[HWW.out]
  have HAM : Hid (zC 44 #[.agg #[.int .i64 x.me, .int .i64 x.rv, .int .i64 x.nx, .int .i64 x.mo, .int .i64 x.bo, .int .i64 x.fr, .slice p len cap]] W0 λe w' => e=.returned (.bool true) ∧ zB W0 w') := ramay x p len cap _ H0R.out hl hm
  go_wp2_with refine zw ?_
  refine HAM.out.mono ?_
  rintro e w1 ⟨rfl, hb1⟩
  obtain⟨H1d, H1r, H1l⟩ := zn3 hb1 H0d H0r H0l
  have H1R := zh (H0R.out.below hb1)
  have H1B := shB H0B hb1
  have hsw1 := hb1.size
  clear hb1
  clear hm
  by_cases h1 : x.rv<15
  ·have d1 : decide (15 ≤ x.rv) = false := decide_eq_false (by omega)
   by_cases h2 : x.nx ≤ 1048575
   ·have d2 : (x.nx==1048576) = false := by simp; omega
    have HCP := zh (rcopy x p len cap w1 H1R.out hdm)
    have qd1 := H1d.out.cell 1
    have qd2 := H1d.out.cell 2
    go_wp2_with refine zw ?_
    refine HCP.out.mono ?_
    rintro e w3 ⟨p3, cap3, rfl, hf3, hb3⟩
    obtain⟨H2d, H2r, H2l⟩ := zn3 hb3 H1d H1r H1l
    have H2R := zh (H1R.out.below hb3)
    have H2B := shB H1B hb3
    have hsw3 := hb3.size
    clear hb3
    clear qd1 qd2
    unfold Ac.v Ac.cs
    have H3F := zh hf3
    have HUPF := zh (came_lt H3F.out.came)
    clear hf3
    obtain⟨W4, HWW, H4n, HBB, hsW4⟩ := sh1 w3 #[.int .i64 x.me, .int .i64 x.rv, .int .i64 x.nx, .int .i64 x.mo, .int .i64 x.bo, .int .i64 x.fr, .slice p3 len cap3] 55
    obtain⟨H4d, H4r, H4l⟩ := zn3 HBB.out H2d H2r H2l
    have H4F := zh (H3F.out.below HBB.out)
    have H4B := shB H2B HBB.out
    go_upto_region 8 with fail
    rw[HWW.out]
    have qd1 := H4d.out.cell 1
    go_wp2_with (first|refine zl ?_|refine zw ?_)
    intro W5 hU
    obtain⟨H5d, H5r, H5l⟩ := zk3 hU H4d H4r H4l
    have H5n := zh hU.blk
    have H5F : Hid (deb.Fresh W5 w1.heap.size p3 len cap3 x.ds) := fresh_updN H4F.out hU (λhn y hy => by have f1 := H4F.out.new hn y hy; have f2 := HUPF.out hn y hy; omega)
    have H5B := zk hU H4B
    have hsW5 := hU.size
    clear hU
    clear qd1
    have qd2 := H5d.out.cell 2
    go_wp2_with (first|refine zl ?_|refine zw ?_)
    intro W6 hU
    obtain⟨H6d, H6r, H6l⟩ := zk3 hU H5d H5r H5l
    have H6n := zh hU.blk
    have H6F : Hid (deb.Fresh W6 w1.heap.size p3 len cap3 x.ds) := fresh_updN H5F.out hU (λhn y hy => by have f1 := H5F.out.new hn y hy; have f2 := HUPF.out hn y hy; omega)
    have H6B := zk hU H5B
    have hsW6 := hU.size
    clear hU
    clear qd2
    go_upto_region 10 with fail
    refine wp_region_held_drew (S := λv => Blk v (w3.heap.size) #[.int .i64 x.me, .int .i64 (x.rv + 1), .int .i64 (x.nx + 1), .int .i64 x.mo, .int .i64 x.bo, .int .i64 x.fr, .slice p3 len cap3] 55 ∧ Blk v (w.heap.size) #[.int .i64 x.me, .int .i64 x.rv, .int .i64 x.nx, .int .i64 x.mo, .int .i64 x.bo, .int .i64 x.fr, .slice p len cap] 55) (by kernel_rfl) ⟨Blk.drew H6n.out 1, Blk.drew H6d.out 1⟩ (λhHeld => ?_)
    refine zu' 0 (.agg #[.int .i64 x.me, .int .i64 (x.rv + 1), .int .i64 (x.nx + 1), .int .i64 x.mo, .int .i64 x.bo, .int .i64 x.fr, .slice p3 len cap3]) rfl rfl (Or.inl ⟨by rfl, λv hv => by have g0 := hv.1.cell 0; have g1 := hv.1.cell 1; have g2 := hv.1.cell 2; have g3 := hv.1.cell 3; have g4 := hv.1.cell 4; have g5 := hv.1.cell 5; have g6 := hv.1.cell 6; clear hv; go_simp⟩) ?_
    refine zt' 1 (.pointer (some ⟨w.heap.size, 2, none⟩)) ?_
    refine zu' 2 (.int .i64 x.nx) rfl rfl (Or.inl ⟨by rfl, λv hv => by have g := hv.2.cell 2; clear hv; go_simp⟩) ?_
    refine zt' 3 (.agg #[.int .i64 x.nx, .int .i64 0, .int .i64 0, .int .i64 0, .int .i64 0, .int .i64 0, .int .i64 0]) ?_
    refine zo 4 λK hK => ?_
    rw[if_pos (by rfl)]
    refine wp_letOp 55 _ _ rfl (w.heap.size + 1) rfl #[.int .i64 x.me, .int .i64 (x.rv + 1), .int .i64 (x.nx + 1), .int .i64 x.mo, .int .i64 x.bo, .int .i64 x.fr, .slice p3 len cap3] rfl (by kernel_rfl) (by simp[Value.oneCell']) #[.int .i64 0, .int .i64 0, .int .i64 0, .int .i64 0, .int .i64 0, .int .i64 0, .slice none 0 0] 55 (Blk.drew H6r.out 1) rfl rfl ?_
    intro V1 hU
    have H7d := zh (hU.keep (Blk.drew H6d.out 1) (by omega))
    have H7r := zh hU.blk
    have H7l := zh (hU.keep (Blk.drew H6l.out 1) (by omega))
    have H7n := zh (hU.keep (Blk.drew H6n.out 1) (by omega))
    have H7F : Hid (deb.Fresh V1 w1.heap.size p3 len cap3 x.ds) := fresh_updN (fresh_drew H6F.out) hU (λhn y hy => by have f1 := H6F.out.new hn y hy; have f2 := HUPF.out hn y hy; omega)
    have H7B : Hid (zB w V1) := hU.bel _ _ (by omega) H6B.out.drew
    clear hU
    refine hK.out _ _ ⟨H7n.out, H7d.out⟩ (λhHeld => ?_)
    clear hK K
    refine zo 5 λK hK => ?_
    rw[if_pos (by rfl)]
    refine wp_letOp 33 _ _ rfl (w.heap.size + 1 + 1) rfl #[.int .i64 x.nx, .int .i64 0, .int .i64 0, .int .i64 0, .int .i64 0, .int .i64 0, .int .i64 0] rfl (by kernel_rfl) (by simp[Value.oneCell']) #[.int .i64 0, .int .i64 0, .int .i64 0, .int .i64 0, .int .i64 0, .int .i64 0, .int .i64 0] 33 H7l.out rfl rfl ?_
    intro V2 hU
    obtain⟨H8d, H8r⟩ := zk2 hU H7d H7r
    have H8l := zh hU.blk
    have H8n := zk1 hU H7n
    have H8F : Hid (deb.Fresh V2 w1.heap.size p3 len cap3 x.ds) := fresh_updN H7F.out hU (λhn y hy => by have f1 := H7F.out.new hn y hy; have f2 := HUPF.out hn y hy; omega)
    have H8B := zk hU H7B
    clear hU
    refine hK.out _ _ ⟨H8n.out, H8d.out⟩ (λhHeld => ?_)
    clear hK K
    refine zt' 6 (.int .i64 0) ?_
    refine wpAnyH_done (by kernel_rfl) ?_ _
    clear hHeld
    obtain⟨Rr0, Rr1, Rr2, Rr3, Rr4, Rr5, Rr6⟩ := shc7 H8r
    obtain⟨Rl0, Rl1, Rl2, Rl3, Rl4, Rl5, Rl6⟩ := shc7 H8l
    go_wp2_with fail
    exact zr (.tuple #[.agg #[.int .i64 x.me, .int .i64 (x.rv + 1), .int .i64 (x.nx + 1), .int .i64 x.mo, .int .i64 x.bo, .int .i64 x.fr, .slice p3 len cap3], .agg #[.int .i64 x.nx, .int .i64 0, .int .i64 0, .int .i64 0, .int .i64 0, .int .i64 0, .int .i64 0], .int .i64 0]) (by simp[results, Tryz.results24, Rr0.out, Rr1.out, Rr2.out, Rr3.out, Rr4.out, Rr5.out, Rr6.out, Rl0.out, Rl1.out, Rl2.out, Rl3.out, Rl4.out, Rl5.out, Rl6.out, go_sem]) ⟨⟨x.me, x.rv + 1, x.nx + 1, x.mo, x.bo, x.fr, x.ds⟩, ⟨x.nx, 0, 0, 0, 0, 0, 0⟩, p3, len, cap3, _, rfl, .inr (.inr (.inr ⟨HM.out, h1, h2, rfl, rfl, rfl⟩)), H8F.out.low (by omega), H8B.out⟩
   ·have d2 : (x.nx==1048576) = true := by simp; omega
    have HV : Hid (RekeyIs x ac0 bi0 20) :=.inr (.inr (.inl ⟨HM.out, h1, h2, rfl, rfl, rfl⟩))
    clear h2
    have q1 := H1d.out.cell 1
    have q2 := H1d.out.cell 2
    go_wp2_with (first|refine zs ?_|refine zw ?_)
    intro w1a hU
    have H2d := zk1 hU H1d
    have H2r := zh hU.blk
    have H2l := zk1 hU H1l
    have H2B := zk hU H1B
    have hsw1a := hU.size
    clear hU
    go_wp2_with (first|refine zs ?_|refine zw ?_)
    intro w1ab hU
    obtain⟨H3d, H3r⟩ := zk2 hU H2d H2r
    have H3l := zh hU.blk
    have H3B := zk hU H2B
    have hsw1ab := hU.size
    clear hU
    obtain⟨Rr0, Rr1, Rr2, Rr3, Rr4, Rr5, Rr6⟩ := shc7 H3r
    obtain⟨Rl0, Rl1, Rl2, Rl3, Rl4, Rl5, Rl6⟩ := shc7 H3l
    go_wp2_with fail
    exact zr (.tuple #[.agg #[.int .i64 0, .int .i64 0, .int .i64 0, .int .i64 0, .int .i64 0, .int .i64 0, .slice none 0 0], .agg #[.int .i64 0, .int .i64 0, .int .i64 0, .int .i64 0, .int .i64 0, .int .i64 0, .int .i64 0], .int .i64 20]) (by simp[results, Tryz.results24, Rr0.out, Rr1.out, Rr2.out, Rr3.out, Rr4.out, Rr5.out, Rr6.out, Rl0.out, Rl1.out, Rl2.out, Rl3.out, Rl4.out, Rl5.out, Rl6.out, go_sem]) ⟨ac0, bi0, none, 0, 0, _, rfl, HV.out, deb.fresh_nil _ _, H3B.out⟩
  ·have d1 : decide (15 ≤ x.rv) = true := decide_eq_true (by omega)
   have HV : Hid (RekeyIs x ac0 bi0 24) :=.inr (.inl ⟨HM.out, h1, rfl, rfl, rfl⟩)
   clear h1
   have q1 := H1d.out.cell 1
   go_wp2_with (first|refine zs ?_|refine zw ?_)
   intro w1a hU
   have H2d := zk1 hU H1d
   have H2r := zh hU.blk
   have H2l := zk1 hU H1l
   have H2B := zk hU H1B
   have hsw1a := hU.size
   clear hU
   go_wp2_with (first|refine zs ?_|refine zw ?_)
   intro w1ab hU
   obtain⟨H3d, H3r⟩ := zk2 hU H2d H2r
   have H3l := zh hU.blk
   have H3B := zk hU H2B
   have hsw1ab := hU.size
   clear hU
   obtain⟨Rr0, Rr1, Rr2, Rr3, Rr4, Rr5, Rr6⟩ := shc7 H3r
   obtain⟨Rl0, Rl1, Rl2, Rl3, Rl4, Rl5, Rl6⟩ := shc7 H3l
   go_wp2_with fail
   exact zr (.tuple #[.agg #[.int .i64 0, .int .i64 0, .int .i64 0, .int .i64 0, .int .i64 0, .int .i64 0, .slice none 0 0], .agg #[.int .i64 0, .int .i64 0, .int .i64 0, .int .i64 0, .int .i64 0, .int .i64 0, .int .i64 0], .int .i64 24]) (by simp[results, Tryz.results24, Rr0.out, Rr1.out, Rr2.out, Rr3.out, Rr4.out, Rr5.out, Rr6.out, Rl0.out, Rl1.out, Rl2.out, Rl3.out, Rl4.out, Rl5.out, Rl6.out, go_sem]) ⟨ac0, bi0, none, 0, 0, _, rfl, HV.out, deb.fresh_nil _ _, H3B.out⟩
 ·have HM := zh hm
  obtain⟨W0, HWW, H0d, H0r, H0l, H0B, hs0⟩ := sh3 w #[.int .i64 x.me, .int .i64 x.rv, .int .i64 x.nx, .int .i64 x.mo, .int .i64 x.bo, .int .i64 x.fr, .slice p len cap] 55 #[.int .i64 0, .int .i64 0, .int .i64 0, .int .i64 0, .int .i64 0, .int .i64 0, .slice none 0 0] 55 #[.int .i64 0, .int .i64 0, .int .i64 0, .int .i64 0, .int .i64 0, .int .i64 0, .int .i64 0] 33
  have H0R := zh (h.below H0B.out)
  go_enter Tryz.func24, Tryz.ntmps24
  go_upto_region 1 with fail
  rw[HWW.out]
  have HAM : Hid (zC 44 #[.agg #[.int .i64 x.me, .int .i64 x.rv, .int .i64 x.nx, .int .i64 x.mo, .int .i64 x.bo, .int .i64 x.fr, .slice p len cap]] W0 λe w' => e=.returned (.bool false) ∧ zB W0 w') := ranot x p len cap _ H0R.out hl hm
  go_wp2_with refine zw ?_
  refine HAM.out.mono ?_
  rintro e w1 ⟨rfl, hb1⟩
  obtain⟨H1d, H1r, H1l⟩ := zn3 hb1 H0d H0r H0l
  have H1R := zh (H0R.out.below hb1)
  have H1B := shB H0B hb1
  have hsw1 := hb1.size
  clear hb1
  go_wp2_with (first|refine zs ?_|refine zw ?_)
  intro w1a hU
  have H2d := zk1 hU H1d
  have H2r := zh hU.blk
  have H2l := zk1 hU H1l
  have H2B := zk hU H1B
  have hsw1a := hU.size
  clear hU
  go_wp2_with (first|refine zs ?_|refine zw ?_)
  intro w1ab hU
  obtain⟨H3d, H3r⟩ := zk2 hU H2d H2r
  have H3l := zh hU.blk
  have H3B := zk hU H2B
  have hsw1ab := hU.size
  clear hU
  obtain⟨Rr0, Rr1, Rr2, Rr3, Rr4, Rr5, Rr6⟩ := shc7 H3r
  obtain⟨Rl0, Rl1, Rl2, Rl3, Rl4, Rl5, Rl6⟩ := shc7 H3l
  go_wp2_with fail
  exact zr (.tuple #[.agg #[.int .i64 0, .int .i64 0, .int .i64 0, .int .i64 0, .int .i64 0, .int .i64 0, .slice none 0 0], .agg #[.int .i64 0, .int .i64 0, .int .i64 0, .int .i64 0, .int .i64 0, .int .i64 0, .int .i64 0], .int .i64 5]) (by simp[results, Tryz.results24, Rr0.out, Rr1.out, Rr2.out, Rr3.out, Rr4.out, Rr5.out, Rr6.out, Rl0.out, Rl1.out, Rl2.out, Rl3.out, Rl4.out, Rl5.out, Rl6.out, go_sem]) ⟨ac0, bi0, none, 0, 0, _, rfl, .inl ⟨HM.out, rfl, rfl, rfl⟩, deb.fresh_nil _ _, H3B.out⟩
theorem pgrant(g:Nat)(x:Ac)(p:Option Addr)(len cap:Nat)(t:Tm)(pt:Option Addr)(lt ct:Nat)(m:Int)(w:World)(hw:Blk w g (wcs x bi0 p len cap) 132)(hd:deb.Fresh w (g+1) p len cap x.ds)(ha:AMay x)(ht:Came w pt lt ct t.ts)(hwf:wf4 t)(hfar:Far pt lt g):Calls Tryz.prog 62 #[.pointer (some ⟨g,0,none⟩),.agg #[.slice pt lt ct,zI t.ff,zI t.fb,zI t.db,zI t.al],zI m] w λe w'=>DPost w g (Or0 (GrantIs x t m)) e w':=by
 have am:=hw.lt;have F:Hid (zB w (w.alloc (.cells #[.slice pt lt ct,zI t.ff,zI t.fb,zI t.db,zI t.al] 24))):=(Below.refl w.heap.size w).alloc (by simp) _;have Z:Hid (Chg w (w.alloc (.cells #[.slice pt lt ct,zI t.ff,zI t.fb,zI t.db,zI t.al] 24)) g):=.of F.o;have a2:=zye w #[.slice pt lt ct,zI t.ff,zI t.fb,zI t.db,zI t.al] 24;have a1:Hid (Blk (w.alloc (.cells #[.slice pt lt ct,zI t.ff,zI t.fb,zI t.db,zI t.al] 24)) g (wcs x bi0 p len cap) 132):=hw.alloc _;have a0:=zh (hd.below F.o);have M:=zh (ht.below F.o);have i:=zh hfar;have a8:Hid (∀W,Blk W g (wcs x bi0 p len cap) 132→deb.Fresh W (g+1) p len cap x.ds→Came W pt lt ct t.ts→zC 65 #[.pointer (some ⟨g,0,none⟩),.agg #[.slice pt lt ct,zI t.ff,zI t.fb,zI t.db,zI t.al],zI m] W λe w'=>DPost W g (BeginR x t m bi0) e w'):=λW j B J=>pbegin g x p len cap t pt lt ct bi0 m W j B ha J hwf hfar;have Q:=zh ha;have af:=ha.2.2.2.1;clear hw hd ht hwf hfar ha;generalize S:(w.alloc (.cells #[.slice pt lt ct,zI t.ff,zI t.fb,zI t.db,zI t.al] 24))=W0 at *;have ac:=zh S;clear S;go_enter Tryz.func62,Tryz.ntmps62;go_upto_region 1 with fail
 rw[ac.o];go_wp2_with refine zw ?_;refine(a8.o _ a1.o a0.o M.o).mono ?_;rintro e w1 ⟨y,b2,q,n,c,f,rfl,⟨Y,ad⟩,U,T,C⟩;subst ad;have s:=zh T;have b:=zh U;have u:Hid (Blk w1 (w.heap.size) #[.slice pt lt ct,zI t.ff,zI t.fb,zI t.db,zI t.al] 24):=Chg.keep (g:=g) (C) a2.o (by omega);have a3:=zh (came_chg M.o (C) i.o);have r:=zh (Z.o.trans (C));clear T C U;by_cases R:f=0
 ·skip
  subst R
  have a:TRight t∧RMay x m∧y=rolled x m:=by
   rcases Y with⟨j,B,_⟩|⟨_,_,J,_⟩|⟨j,B,J,_⟩
   ·exact absurd (B.ok.1 rfl) j
   ·exact absurd rfl J.ne
   ·exact⟨j,B,J⟩
  have z:Hid (Ready x t m):=⟨Q.o,a.1,a.2.1⟩
  have HT:=zh a.1;have a9:Hid (y=rolled x m):=a.2.2;have k:=rolled_same x m;rw[← a.2.2] at k;have ae:=(rolled_may Q.o a.2.1).2.2.2.2.2.1;rw[← a.2.2] at ae;have ak:deb.Mays y.ds:=by rw[a.2.2];exact(rolled_may Q.o a.2.1).1
  have I:Hid (y.nx=x.nx):=k.2.2.1;have ag:1≤y.nx∧y.nx≤1048576:=by rw[k.2.2.1];exact af
  have d:Hid (y.me=x.me∧y.rv=x.rv∧y.nx=x.nx∧y.mo=m∧y.fr=x.fr):=k;clear a Y k;by_cases E:t.al=0
  ·have d5:(t.al==0)=true:=by simpa using E
   have A:Hid (Or0 (GrantIs x t m) y bi0 22):=.inl ⟨by decide,.inr (.inl ⟨z.o,E,rfl,rfl,rfl⟩)⟩;clear E;have l:=zy4 u;go_wp2_with fail;go_ret;exact⟨y,bi0,q,n,c,22,rfl,A.o,b.o,s.o,r.o⟩
  ·have d5:(t.al==0)=false:=by simpa using E
   by_cases L:x.fr=m
   ·have d6:(y.fr==m)=true:=by simp;rw[d.o.2.2.2.2];exact L
    have A:Hid (Or0 (GrantIs x t m) y bi0 21):=.inl ⟨by decide,.inr (.inr (.inl ⟨z.o,E,L,rfl,rfl,rfl⟩))⟩;clear E L;have l:=zy4 u;have X:=zy5 b;go_wp2_with fail;go_ret;exact⟨y,bi0,q,n,c,21,rfl,A.o,b.o,s.o,r.o⟩
   ·have d6:(y.fr==m)=false:=by simp;rw[d.o.2.2.2.2];exact L
    have l:=zy4 u;have X:=zy5 b;go_wp2_with (first|(refine wp_let1 rfl 3 _ _ rfl g 5 rfl .i64 m rfl (by kernel_rfl) #[zI y.me,zI y.rv,zI y.nx,zI y.mo,zI y.bo,zI y.fr,.slice q n c,zI 0,zI 0,zI 0,zI 0,zI 0,zI 0,zI 0] 132 b.o (by simp) ?_)|fail)
    intro W2 h;have ah:=zyb h;have N:Hid (Blk W2 (w.heap.size) #[.slice pt lt ct,zI t.ff,zI t.fb,zI t.db,zI t.al] 24):=Chg.keep (g:=g) (.upd h) u.o (by omega);have a6:=zh (came_chg a3.o (.upd h) i.o);have a5:=zh (fresh_chg s.o (.upd h));have a4:=zh (r.o.trans (.upd h));clear h l X d5 d6;have l:=zy4 N;go_wp2_with refine zl ?_;intro W3 h;have a7:=zyb h;have aj:Hid (Blk W3 (w.heap.size) #[.slice pt lt ct,zI t.ff,zI t.fb,zI t.db,zI t.al] 24):=Chg.keep (g:=g) (.upd h) N.o (by omega);have ai:=zh (came_chg a6.o (.upd h) i.o);have P:=zh (fresh_chg a5.o (.upd h));have O:=zh (a4.o.trans (.upd h));clear h l
    have aa:Hid (⟨y.me,y.rv,y.nx+1,y.mo,y.bo,m,y.ds⟩=granted x m):=by
     show _=_;unfold granted;rw[← a9.o,d.o.1,d.o.2.1,d.o.2.2.1,d.o.2.2.2.1]
    have ab:Hid (zC 70 #[.pointer (some ⟨g,0,none⟩)] W3 λe w'=>NumPost W3 g ⟨y.me,y.rv,y.nx,y.mo,y.bo,m,y.ds⟩ ⟨0,0,0,0,0,0,t.al⟩ q n c e w'):=pnum g ⟨y.me,y.rv,y.nx,y.mo,y.bo,m,y.ds⟩ ⟨0,0,0,0,0,0,t.al⟩ q n c W3 a7.o ag;go_wp2_with fail;refine ab.o.mono ?_;rintro e wN ⟨D,⟨V,rfl,K⟩|⟨V,rfl,K⟩⟩
    ·have A:Hid (Or0 (GrantIs x t m) ⟨y.me,y.rv,y.nx,y.mo,y.bo,m,y.ds⟩ ⟨0,0,0,0,0,0,t.al⟩ 20):=.inl ⟨by decide,.inr (.inr (.inr (.inl ⟨z.o,E,L,by rw[← I.o];exact V,rfl,rfl,rfl⟩)))⟩;have H:=fresh_chg P.o D;have G:=O.o.trans D;clear V;go_wp2_with fail;go_ret;exact⟨⟨y.me,y.rv,y.nx,y.mo,y.bo,m,y.ds⟩,⟨0,0,0,0,0,0,t.al⟩,q,n,c,20,rfl,A.o,K,H,G⟩
    ·have A:Hid (Or0 (GrantIs x t m) ⟨y.me,y.rv,y.nx+1,y.mo,y.bo,m,y.ds⟩ ⟨y.nx,0,0,0,0,0,t.al⟩ 0):=.inr ⟨rfl,.inr (.inr (.inr (.inr ⟨z.o,E,L,by rw[← I.o];exact V,rfl,aa.o,by rw[I.o]⟩)))⟩;have H:=fresh_chg P.o D;have G:=O.o.trans D;clear V;go_wp2_with fail;go_ret;exact⟨⟨y.me,y.rv,y.nx+1,y.mo,y.bo,m,y.ds⟩,⟨y.nx,0,0,0,0,0,t.al⟩,q,n,c,0,rfl,A.o,K,H,G⟩
 ·skip
  have d0:(f != 0)=true:=by simpa using R
  have A:Hid (Or0 (GrantIs x t m) y bi0 f):=by
   refine .inl ⟨R,.inl ⟨?_,rfl,rfl⟩⟩;rcases Y with⟨j,B,_⟩|⟨j,B,J,_⟩|⟨_,_,_,j⟩
   ·exact .inr (.inl ⟨Q.o,j,B⟩)
   ·exact .inr (.inr ⟨Q.o,j,B,J⟩)
   ·exact absurd j R
  clear Y R;go_wp2_with fail;go_ret;exact⟨y,bi0,q,n,c,f,rfl,A.o,b.o,s.o,r.o⟩
end acc
end Go.Proofs.YtoepgdhiepedeaaGreatDoor
