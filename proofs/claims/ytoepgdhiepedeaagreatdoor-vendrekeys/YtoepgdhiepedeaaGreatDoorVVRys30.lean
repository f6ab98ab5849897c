import Derived.Test.YtoepgdhiepedeaaGreatDoorVVRys24
import Derived.Test.YtoepgdhiepedeaaGreatDoorVVRys28
import Derived.Test.YtoepgdhiepedeaaGreatDoorVVRys29
set_option linter.unusedVariables false
set_option linter.unusedSimpArgs false
set_option maxHeartbeats 4000000
set_option maxRecDepth 100000
namespace Go.Proofs.YtoepgdhiepedeaaGreatDoor
namespace acc
open tar (Du du0 Came RowD Ld PairT)
open Go.RowKit
theorem prekey(g:Nat)(x:Ac)(p:Option Addr)(len cap:Nat)(w:World)(hw:Blk w g (wcs x bi0 p len cap) 132)(hd:deb.Fresh w (g+1) p len cap x.ds)(ha:AMay x):Calls Tryz.prog 63 #[.pointer (some ⟨g,0,none⟩)] w λe w'=>DPost w g (Or0 (RekeyIs x)) e w':=by
 have u:=ha.2.2.1;have j:=ha.2.2.2.1;have s:=zh ha;have q:Hid (Blk w g #[zI x.me,zI x.rv,zI x.nx,zI x.mo,zI x.bo,zI x.fr,.slice p len cap,zI 0,zI 0,zI 0,zI 0,zI 0,zI 0,zI 0] 132):=hw;have z:Hid (deb.Fresh w (g+1) p len cap x.ds):=hd;have C:=zy1 q;clear hw hd ha;by_cases m:x.rv<15
 ·have A:(x.rv==15)=false:=by simp;omega
  have B:IntKind.i64.wrap (x.rv+1)=x.rv+1:=by rw[IntKind.wrap_i64];omega
  have y:Hid (x.rv<15):=m;go_enter Tryz.func63,Tryz.ntmps63;go_wp2_with (first|(refine wp_let1 rfl 3 _ _ rfl g 1 rfl .i64 (x.rv+1) rfl (by kernel_rfl) #[zI x.me,zI x.rv,zI x.nx,zI x.mo,zI x.bo,zI x.fr,.slice p len cap,zI 0,zI 0,zI 0,zI 0,zI 0,zI 0,zI 0] 132 q.o (by simp) ?_)|fail)
  intro l n;have r:=zyb n;have f:Hid (Chg w l g):=.upd n;have h:=zh (fresh_chg z.o (.upd n));have t:Hid (zC 70 #[.pointer (some ⟨g,0,none⟩)] l λe w'=>NumPost l g ⟨x.me,x.rv+1,x.nx,x.mo,x.bo,x.fr,x.ds⟩ bi0 p len cap e w'):=pnum g ⟨x.me,x.rv+1,x.nx,x.mo,x.bo,x.fr,x.ds⟩ bi0 p len cap l r.o j;clear n C A m;go_wp2_with fail;refine t.o.mono ?_;rintro e D ⟨a,⟨k,rfl,d⟩|⟨k,rfl,d⟩⟩
  ·have i:Hid (Or0 (RekeyIs x) ⟨x.me,x.rv+1,x.nx,x.mo,x.bo,x.fr,x.ds⟩ bi0 20):=.inl ⟨by decide,.inr (.inr (.inl ⟨s.o,y.o,k,rfl,rfl,rfl⟩))⟩;have c:=fresh_chg h.o a;have b:=f.o.trans a;clear k;go_wp2_with fail;go_ret;exact⟨⟨x.me,x.rv+1,x.nx,x.mo,x.bo,x.fr,x.ds⟩,bi0,p,len,cap,20,rfl,i.o,d,c,b⟩
  ·have i:Hid (Or0 (RekeyIs x) ⟨x.me,x.rv+1,x.nx+1,x.mo,x.bo,x.fr,x.ds⟩ ⟨x.nx,0,0,0,0,0,0⟩ 0):=.inr ⟨rfl,.inr (.inr (.inr ⟨s.o,y.o,k,rfl,rfl,rfl⟩))⟩;have c:=fresh_chg h.o a;have b:=f.o.trans a;clear k;go_wp2_with fail;go_ret;exact⟨⟨x.me,x.rv+1,x.nx+1,x.mo,x.bo,x.fr,x.ds⟩,⟨x.nx,0,0,0,0,0,0⟩,p,len,cap,0,rfl,i.o,d,c,b⟩
 ·have A:(x.rv==15)=true:=by simp;omega
  have i:Hid (Or0 (RekeyIs x) x bi0 24):=.inl ⟨by decide,.inr (.inl ⟨s.o,m,rfl,rfl,rfl⟩)⟩;clear m u j;go_enter Tryz.func63,Tryz.ntmps63;go_wp2_with fail;go_ret;exact⟨x,bi0,p,len,cap,24,rfl,i.o,q.o,z.o,Chg.refl _ _⟩
theorem krekey:KcRekey:=by
 intro w x p len k U;unfold Ac.v Ac.cs;obtain⟨r,Q,B,D,C,m,a6⟩:=sh3 w #[zI x.me,zI x.rv,zI x.nx,zI x.mo,zI x.bo,zI x.fr,.slice p len k] 55 #[zI 0,zI 0,zI 0,zI 0,zI 0,zI 0,zS] 55 #[zI 0,zI 0,zI 0,zI 0,zI 0,zI 0,zI 0] 33;have n:=zh (U.ds.below m.o);go_enter Tryz.func31,Tryz.ntmps31;go_upto_region 1 with fail
 rw[Q.o]
 have P:Hid (zC 32 #[.agg #[zI x.me,zI x.rv,zI x.nx,zI x.mo,zI x.bo,zI x.fr,.slice p len k],.func (.func 63) #[] #[]] r λe w'=>BPost r (RekeyIs x) e w'):=by
  refine pwork 63 #[] (RekeyIs x) x p len k r n.o (λh=> .inl ⟨h,rfl,rfl,rfl⟩) (λ_ _=>by kernel_rfl) ?_;intro X W g p' f hB hg i S
  have O:deb.Fresh W (g+1) p' len f x.ds:=by
   obtain⟨a0,c0,hv,R⟩:=deb.ld_fresh S X.1;injection hv with h1 h2 h3
   rw[h1,h2,h3];exact R
  exact(prekey g x p' len f W i O X).mono λe w' h=>h.w (Nat.le_of_lt i.lt)
 clear U;go_wp2_with refine zw ?_;refine P.o.mono ?_;rintro e w1 ⟨b,l,A,z,u,T,rfl,V,hf,c⟩;obtain⟨F,a3,G⟩:=zn3 c B D C;have a2:=zh (n.o.below c);have E:=shB m c;have a1:=c.size;clear c;unfold Ac.v Ac.cs Bi.v;have j:=zh hf;have d:=zh (came_lt j.o.came);have HV:=zh V;clear hf V;go_wp2_with (first|refine zs ?_|refine zw ?_)
 intro W4 a;obtain⟨I,a4⟩:=zk2 a F G;have J:=zyb a;have q:Hid (deb.Fresh W4 r.heap.size A z u b.ds):=fresh_updN j.o a (λs y t=>by have f1:=j.o.new s y t;have f2:=d.o s y t;omega);have H:=zk a E;have Y:=a.size;clear a;go_wp2_with (first|refine zs ?_|refine zw ?_)
 intro W5 a;obtain⟨a5,N⟩:=zk2 a I J;have M:=zyb a;have L:Hid (deb.Fresh W5 r.heap.size A z u b.ds):=fresh_updN q.o a (λs y t=>by have f1:=q.o.new s y t;have f2:=d.o s y t;omega);have K:=zk a H;have Z:=a.size;clear a;go_wp2_with fail;exact zr (.tuple #[.agg #[zI b.me,zI b.rv,zI b.nx,zI b.mo,zI b.bo,zI b.fr,.slice A z u],.agg #[zI l.id,zI l.te,zI l.de,zI l.fe,zI l.pr,zI l.ch,zI l.un],zI T]) (by simp[results,Tryz.results31,scl7 N,scl7 M,go_sem]) ⟨b,l,A,z,u,T,rfl,HV.o,L.o.low (by omega),K.o⟩
end acc
namespace book
open Go.RowKit
open acc (Ac Tm Bi APost BPost TFault TRight OpenIs OweIs SellIs GrantIs RekeyIs wf6 ACame TCame fresh_updN fresh_drew came_lt)
set_option maxRecDepth 100000
set_option maxHeartbeats 8000000 in
theorem bwork(gW : Nat)(V : Value)(B : Nat)(t : Tm)(pt : Option Addr)(lt ct : Nat)(x : Ac)(so : List So)(p : Option Addr)(len cap : Nat)(v : Ev)(w : World)(hw : Blk w gW #[V, .slice pt lt ct, .int .i64 t.ff, .int .i64 t.fb, .int .i64 t.db, .int .i64 t.al, .map (some B)] 170)(ht : TCame w t pt lt ct)(ha : ACame w x p len cap)(hv : (Lit.int .i64 v.te).wf = true ∧ (Lit.int .i64 v.mo).wf = true)(hk : v.kd = 2 ∨ v.kd = 3 ∨ v.kd = 4):
  Calls Tryz.prog 183 #[.pointer (some ⟨gW, 0, none⟩), .agg #[.int .i64 x.me, .int .i64 x.rv, .int .i64 x.nx, .int .i64 x.mo, .int .i64 x.bo, .int .i64 x.fr, .slice p len cap], .agg #[.int .i64 v.kd, .int .i64 v.me, .int .i64 v.mo, .int .i64 v.id, .int .i64 v.te, .int .i64 v.de, .int .i64 v.fe, .int .i64 v.pr, .int .i64 v.ch, .int .i64 v.un, .int .i64 v.tg, .int .i64 v.ow, .int .i64 v.bp]] w λe w' => BPost w (Tells t ⟨x, so⟩ v) e w' := by
 have hgl := hw.lt
 have HWF := zh hv
 obtain⟨W0, HWW, H0a, H0v, H0r, H0l, H0B, hs0⟩ := sh4 w #[.int .i64 x.me, .int .i64 x.rv, .int .i64 x.nx, .int .i64 x.mo, .int .i64 x.bo, .int .i64 x.fr, .slice p len cap] 55 #[.int .i64 v.kd, .int .i64 v.me, .int .i64 v.mo, .int .i64 v.id, .int .i64 v.te, .int .i64 v.de, .int .i64 v.fe, .int .i64 v.pr, .int .i64 v.ch, .int .i64 v.un, .int .i64 v.tg, .int .i64 v.ow, .int .i64 v.bp] 44 #[.int .i64 0, .int .i64 0, .int .i64 0, .int .i64 0, .int .i64 0, .int .i64 0, .slice none 0 0] 55 #[.int .i64 0, .int .i64 0, .int .i64 0, .int .i64 0, .int .i64 0, .int .i64 0, .int .i64 0] 33
 have H0A := zh (ha.below H0B.out)
 have H0T := zh (ht.below H0B.out)
 have H0W := zh (hw.next H0B.out)
 clear hw ha ht hv
 go_enter Tryz.func183, Tryz.ntmps183
 go_upto_region 1 with fail
 rw[HWW.out]
 have HS0 := zh H0B.out.size
 have qv0 := H0v.out.cell 0
 by_cases k2 : v.kd = 2
 case pos =>
  have q2 : (v.kd==2) = true := by simpa using k2
  have HK := zh k2
  clear k2 hk
  go_wp2_with fail
  clear q2 qv0
  have HSL : Hid (zC 17 #[.agg #[.int .i64 x.me, .int .i64 x.rv, .int .i64 x.nx, .int .i64 x.mo, .int .i64 x.bo, .int .i64 x.fr, .slice p len cap], .agg #[.slice pt lt ct, .int .i64 t.ff, .int .i64 t.fb, .int .i64 t.db, .int .i64 t.al], .int .i64 v.te, .int .i64 v.mo] W0.drew λe w' => BPost W0.drew (SellIs x t v.te v.mo) e w') := acc.ksell _ x p len cap t pt lt ct v.te v.mo (H0A.out.below zb.drew) (H0T.out.below zb.drew) HWF.out.1 HWF.out.2
  refine wp_region_held_drew (S := λu => Blk u (gW) #[V, .slice pt lt ct, .int .i64 t.ff, .int .i64 t.fb, .int .i64 t.db, .int .i64 t.al, .map (some B)] 170 ∧ Blk u (w.heap.size) #[.int .i64 x.me, .int .i64 x.rv, .int .i64 x.nx, .int .i64 x.mo, .int .i64 x.bo, .int .i64 x.fr, .slice p len cap] 55 ∧ Blk u (w.heap.size + 1) #[.int .i64 v.kd, .int .i64 v.me, .int .i64 v.mo, .int .i64 v.id, .int .i64 v.te, .int .i64 v.de, .int .i64 v.fe, .int .i64 v.pr, .int .i64 v.ch, .int .i64 v.un, .int .i64 v.tg, .int .i64 v.ow, .int .i64 v.bp] 44) (by kernel_rfl) (show _ from ⟨Blk.drew H0W.out 1, Blk.drew H0a.out 1, Blk.drew H0v.out 1⟩) (λhHeld => ?_)
  refine zu' 0 (.agg #[.int .i64 x.me, .int .i64 x.rv, .int .i64 x.nx, .int .i64 x.mo, .int .i64 x.bo, .int .i64 x.fr, .slice p len cap]) rfl rfl (Or.inl ⟨by rfl, λv hv => by have g0 := hv.2.1.cell 0; have g1 := hv.2.1.cell 1; have g2 := hv.2.1.cell 2; have g3 := hv.2.1.cell 3; have g4 := hv.2.1.cell 4; have g5 := hv.2.1.cell 5; have g6 := hv.2.1.cell 6; clear hv; go_simp⟩) ?_
  refine zt' 1 (.pointer (some ⟨gW, 0, none⟩)) ?_
  refine zt' 2 (.pointer (some ⟨gW, 0, none⟩)) ?_
  refine zt' 3 (.pointer (some ⟨gW, 1, none⟩)) ?_
  refine zu' 4 (.agg #[.slice pt lt ct, .int .i64 t.ff, .int .i64 t.fb, .int .i64 t.db, .int .i64 t.al]) rfl rfl (Or.inl ⟨by rfl, λv hv => by have g0 := hv.1.cell 1; have g1 := hv.1.cell 2; have g2 := hv.1.cell 3; have g3 := hv.1.cell 4; have g4 := hv.1.cell 5; clear hv; go_simp⟩) ?_
  refine zt' 5 (.pointer (some ⟨w.heap.size + 1, 3, none⟩)) ?_
  refine zt' 6 (.pointer (some ⟨w.heap.size + 1, 4, none⟩)) ?_
  refine zu' 7 (.int .i64 v.te) rfl rfl (Or.inl ⟨by rfl, λv hv => by have g0 := hv.2.2.cell 4; clear hv; go_simp⟩) ?_
  refine zt' 8 (.pointer (some ⟨w.heap.size + 1, 2, none⟩)) ?_
  refine zu' 9 (.int .i64 v.mo) rfl rfl (Or.inl ⟨by rfl, λv hv => by have g0 := hv.2.2.cell 2; clear hv; go_simp⟩) ?_
  refine zo 10 λK hK => ?_
  rw[if_pos (by rfl)]
  refine wp_callOp 23 rfl (by clear hK; go_simp) HSL.out ?_
  rintro e w1 ⟨b, l, pb, lb, cb, f, rfl, hi, hf, hb1⟩
  have hW1 := hb1.size
  have HI := zh hi
  have HF1 : Hid (deb.Fresh w1 W0.heap.size pb lb cb b.ds) := hf
  have H1a := zh ((Blk.drew H0a.out 1).next hb1)
  have H1v := zh ((Blk.drew H0v.out 1).next hb1)
  have H1r := zh ((Blk.drew H0r.out 1).next hb1)
  have H1l := zh ((Blk.drew H0l.out 1).next hb1)
  have H1W := zh ((Blk.drew H0W.out 1).next hb1)
  have H1B := zh (H0B.out.drew.trans (hb1.mono H0B.out.size))
  refine⟨_, rfl, hK.out _ _ ⟨H1W.out, H1a.out, H1v.out⟩ (λhHeld => ?_)⟩
  clear hK K hi hf hb1
  unfold acc.Ac.v acc.Ac.cs acc.Bi.v
  simp only[Act.put, zqa, zqb, zqc]
  refine zt' 11 (.agg #[.int .i64 b.me, .int .i64 b.rv, .int .i64 b.nx, .int .i64 b.mo, .int .i64 b.bo, .int .i64 b.fr, .slice pb lb cb]) ?_
  refine zt' 12 (.agg #[.int .i64 l.id, .int .i64 l.te, .int .i64 l.de, .int .i64 l.fe, .int .i64 l.pr, .int .i64 l.ch, .int .i64 l.un]) ?_
  refine zt' 13 (.int .i64 f) ?_
  refine zo 14 λK hK => ?_
  rw[if_pos (by rfl)]
  refine wp_letOp 55 _ _ rfl (w.heap.size + 1 + 1) rfl #[.int .i64 b.me, .int .i64 b.rv, .int .i64 b.nx, .int .i64 b.mo, .int .i64 b.bo, .int .i64 b.fr, .slice pb lb cb] rfl (by kernel_rfl) (by simp[Value.oneCell']) #[.int .i64 0, .int .i64 0, .int .i64 0, .int .i64 0, .int .i64 0, .int .i64 0, .slice none 0 0] 55 H1r.out rfl rfl ?_
  intro V1 hU
  obtain⟨H2a, H2v⟩ := zk2 hU H1a H1v
  have H2r := zh hU.blk
  obtain⟨H2l, H2W⟩ := zk2 hU H1l H1W
  have H2B := zk hU H1B
  clear H1a H1v H1r H1l H1W H1B
  have HF2 : Hid (deb.Fresh V1 W0.heap.size pb lb cb b.ds) := fresh_updN HF1.out hU (λhn y hy => by have f1 := HF1.out.new hn y hy; omega)
  clear hU
  refine hK.out _ _ ⟨H2W.out, H2a.out, H2v.out⟩ (λhHeld => ?_)
  clear hK K
  refine zo 15 λK hK => ?_
  rw[if_pos (by rfl)]
  refine wp_letOp 33 _ _ rfl (w.heap.size + 1 + 1 + 1) rfl #[.int .i64 l.id, .int .i64 l.te, .int .i64 l.de, .int .i64 l.fe, .int .i64 l.pr, .int .i64 l.ch, .int .i64 l.un] rfl (by kernel_rfl) (by simp[Value.oneCell']) #[.int .i64 0, .int .i64 0, .int .i64 0, .int .i64 0, .int .i64 0, .int .i64 0, .int .i64 0] 33 H2l.out rfl rfl ?_
  intro V2 hU
  obtain⟨H3a, H3v, H3r⟩ := zk3 hU H2a H2v H2r
  have H3l := zh hU.blk
  have H3W := zk1 hU H2W
  have H3B := zk hU H2B
  have HF3 : Hid (deb.Fresh V2 W0.heap.size pb lb cb b.ds) := fresh_updN HF2.out hU (λhn y hy => by have f1 := HF2.out.new hn y hy; omega)
  clear hU
  refine hK.out _ _ ⟨H3W.out, H3a.out, H3v.out⟩ (λhHeld => ?_)
  clear hK K
  refine zt' 16 (.int .i64 f) ?_
  refine wpAnyH_done (by kernel_rfl) ?_ _
  clear hHeld
  obtain⟨Rr0, Rr1, Rr2, Rr3, Rr4, Rr5, Rr6⟩ := shc7 H3r
  obtain⟨Rl0, Rl1, Rl2, Rl3, Rl4, Rl5, Rl6⟩ := shc7 H3l
  go_wp2_with fail
  exact zr (.tuple #[.agg #[.int .i64 b.me, .int .i64 b.rv, .int .i64 b.nx, .int .i64 b.mo, .int .i64 b.bo, .int .i64 b.fr, .slice pb lb cb], .agg #[.int .i64 l.id, .int .i64 l.te, .int .i64 l.de, .int .i64 l.fe, .int .i64 l.pr, .int .i64 l.ch, .int .i64 l.un], .int .i64 f]) (by simp[results, Tryz.results183, Rr0.out, Rr1.out, Rr2.out, Rr3.out, Rr4.out, Rr5.out, Rr6.out, Rl0.out, Rl1.out, Rl2.out, Rl3.out, Rl4.out, Rl5.out, Rl6.out, go_sem]) ⟨b, l, pb, lb, cb, f, rfl, .inl ⟨HK.out, HI.out⟩, HF3.out.low HS0.out, H3B.out⟩
 have q2 : (v.kd==2) = false := by simpa using k2
 by_cases k3 : v.kd = 3
 case pos =>
  have q3 : (v.kd==3) = true := by simpa using k3
  have HK := zh k3
  clear k2 k3 hk
  go_wp2_with fail
  clear q2 q3 qv0
  have HSL : Hid (zC 30 #[.agg #[.int .i64 x.me, .int .i64 x.rv, .int .i64 x.nx, .int .i64 x.mo, .int .i64 x.bo, .int .i64 x.fr, .slice p len cap], .agg #[.slice pt lt ct, .int .i64 t.ff, .int .i64 t.fb, .int .i64 t.db, .int .i64 t.al], .int .i64 v.mo] W0.drew λe w' => BPost W0.drew (GrantIs x t v.mo) e w') := acc.kgrant _ x p len cap t pt lt ct v.mo (H0A.out.below zb.drew) (H0T.out.below zb.drew) HWF.out.2
  refine wp_region_held_drew (S := λu => Blk u (gW) #[V, .slice pt lt ct, .int .i64 t.ff, .int .i64 t.fb, .int .i64 t.db, .int .i64 t.al, .map (some B)] 170 ∧ Blk u (w.heap.size) #[.int .i64 x.me, .int .i64 x.rv, .int .i64 x.nx, .int .i64 x.mo, .int .i64 x.bo, .int .i64 x.fr, .slice p len cap] 55 ∧ Blk u (w.heap.size + 1) #[.int .i64 v.kd, .int .i64 v.me, .int .i64 v.mo, .int .i64 v.id, .int .i64 v.te, .int .i64 v.de, .int .i64 v.fe, .int .i64 v.pr, .int .i64 v.ch, .int .i64 v.un, .int .i64 v.tg, .int .i64 v.ow, .int .i64 v.bp] 44) (by kernel_rfl) (show _ from ⟨Blk.drew H0W.out 1, Blk.drew H0a.out 1, Blk.drew H0v.out 1⟩) (λhHeld => ?_)
  refine zu' 0 (.agg #[.int .i64 x.me, .int .i64 x.rv, .int .i64 x.nx, .int .i64 x.mo, .int .i64 x.bo, .int .i64 x.fr, .slice p len cap]) rfl rfl (Or.inl ⟨by rfl, λv hv => by have g0 := hv.2.1.cell 0; have g1 := hv.2.1.cell 1; have g2 := hv.2.1.cell 2; have g3 := hv.2.1.cell 3; have g4 := hv.2.1.cell 4; have g5 := hv.2.1.cell 5; have g6 := hv.2.1.cell 6; clear hv; go_simp⟩) ?_
  refine zt' 1 (.pointer (some ⟨gW, 0, none⟩)) ?_
  refine zt' 2 (.pointer (some ⟨gW, 0, none⟩)) ?_
  refine zt' 3 (.pointer (some ⟨gW, 1, none⟩)) ?_
  refine zu' 4 (.agg #[.slice pt lt ct, .int .i64 t.ff, .int .i64 t.fb, .int .i64 t.db, .int .i64 t.al]) rfl rfl (Or.inl ⟨by rfl, λv hv => by have g0 := hv.1.cell 1; have g1 := hv.1.cell 2; have g2 := hv.1.cell 3; have g3 := hv.1.cell 4; have g4 := hv.1.cell 5; clear hv; go_simp⟩) ?_
  refine zt' 5 (.pointer (some ⟨w.heap.size + 1, 2, none⟩)) ?_
  refine zu' 6 (.int .i64 v.mo) rfl rfl (Or.inl ⟨by rfl, λv hv => by have g0 := hv.2.2.cell 2; clear hv; go_simp⟩) ?_
  refine zo 7 λK hK => ?_
  rw[if_pos (by rfl)]
  refine wp_callOp 36 rfl (by clear hK; go_simp) HSL.out ?_
  rintro e w1 ⟨b, l, pb, lb, cb, f, rfl, hi, hf, hb1⟩
  have hW1 := hb1.size
  have HI := zh hi
  have HF1 : Hid (deb.Fresh w1 W0.heap.size pb lb cb b.ds) := hf
  have H1a := zh ((Blk.drew H0a.out 1).next hb1)
  have H1v := zh ((Blk.drew H0v.out 1).next hb1)
  have H1r := zh ((Blk.drew H0r.out 1).next hb1)
  have H1l := zh ((Blk.drew H0l.out 1).next hb1)
  have H1W := zh ((Blk.drew H0W.out 1).next hb1)
  have H1B := zh (H0B.out.drew.trans (hb1.mono H0B.out.size))
  refine⟨_, rfl, hK.out _ _ ⟨H1W.out, H1a.out, H1v.out⟩ (λhHeld => ?_)⟩
  clear hK K hi hf hb1
  unfold acc.Ac.v acc.Ac.cs acc.Bi.v
  simp only[Act.put, zqa, zqb, zqc]
  refine zt' 8 (.agg #[.int .i64 b.me, .int .i64 b.rv, .int .i64 b.nx, .int .i64 b.mo, .int .i64 b.bo, .int .i64 b.fr, .slice pb lb cb]) ?_
  refine zt' 9 (.agg #[.int .i64 l.id, .int .i64 l.te, .int .i64 l.de, .int .i64 l.fe, .int .i64 l.pr, .int .i64 l.ch, .int .i64 l.un]) ?_
  refine zt' 10 (.int .i64 f) ?_
  refine zo 11 λK hK => ?_
  rw[if_pos (by rfl)]
  refine wp_letOp 55 _ _ rfl (w.heap.size + 1 + 1) rfl #[.int .i64 b.me, .int .i64 b.rv, .int .i64 b.nx, .int .i64 b.mo, .int .i64 b.bo, .int .i64 b.fr, .slice pb lb cb] rfl (by kernel_rfl) (by simp[Value.oneCell']) #[.int .i64 0, .int .i64 0, .int .i64 0, .int .i64 0, .int .i64 0, .int .i64 0, .slice none 0 0] 55 H1r.out rfl rfl ?_
  intro V1 hU
  obtain⟨H2a, H2v⟩ := zk2 hU H1a H1v
  have H2r := zh hU.blk
  obtain⟨H2l, H2W⟩ := zk2 hU H1l H1W
  have H2B := zk hU H1B
  clear H1a H1v H1r H1l H1W H1B
  have HF2 : Hid (deb.Fresh V1 W0.heap.size pb lb cb b.ds) := fresh_updN HF1.out hU (λhn y hy => by have f1 := HF1.out.new hn y hy; omega)
  clear hU
  refine hK.out _ _ ⟨H2W.out, H2a.out, H2v.out⟩ (λhHeld => ?_)
  clear hK K
  refine zo 12 λK hK => ?_
  rw[if_pos (by rfl)]
  refine wp_letOp 33 _ _ rfl (w.heap.size + 1 + 1 + 1) rfl #[.int .i64 l.id, .int .i64 l.te, .int .i64 l.de, .int .i64 l.fe, .int .i64 l.pr, .int .i64 l.ch, .int .i64 l.un] rfl (by kernel_rfl) (by simp[Value.oneCell']) #[.int .i64 0, .int .i64 0, .int .i64 0, .int .i64 0, .int .i64 0, .int .i64 0, .int .i64 0] 33 H2l.out rfl rfl ?_
  intro V2 hU
  obtain⟨H3a, H3v, H3r⟩ := zk3 hU H2a H2v H2r
  have H3l := zh hU.blk
  have H3W := zk1 hU H2W
  have H3B := zk hU H2B
  have HF3 : Hid (deb.Fresh V2 W0.heap.size pb lb cb b.ds) := fresh_updN HF2.out hU (λhn y hy => by have f1 := HF2.out.new hn y hy; omega)
  clear hU
  refine hK.out _ _ ⟨H3W.out, H3a.out, H3v.out⟩ (λhHeld => ?_)
  clear hK K
  refine zt' 13 (.int .i64 f) ?_
  refine wpAnyH_done (by kernel_rfl) ?_ _
  clear hHeld
  obtain⟨Rr0, Rr1, Rr2, Rr3, Rr4, Rr5, Rr6⟩ := shc7 H3r
  obtain⟨Rl0, Rl1, Rl2, Rl3, Rl4, Rl5, Rl6⟩ := shc7 H3l
  go_wp2_with fail
  exact zr (.tuple #[.agg #[.int .i64 b.me, .int .i64 b.rv, .int .i64 b.nx, .int .i64 b.mo, .int .i64 b.bo, .int .i64 b.fr, .slice pb lb cb], .agg #[.int .i64 l.id, .int .i64 l.te, .int .i64 l.de, .int .i64 l.fe, .int .i64 l.pr, .int .i64 l.ch, .int .i64 l.un], .int .i64 f]) (by simp[results, Tryz.results183, Rr0.out, Rr1.out, Rr2.out, Rr3.out, Rr4.out, Rr5.out, Rr6.out, Rl0.out, Rl1.out, Rl2.out, Rl3.out, Rl4.out, Rl5.out, Rl6.out, go_sem]) ⟨b, l, pb, lb, cb, f, rfl, .inr (.inl ⟨HK.out, HI.out⟩), HF3.out.low HS0.out, H3B.out⟩
 have q3 : (v.kd==3) = false := by simpa using k3
 have HK : Hid (v.kd = 4) := by show _ = _; omega
 clear k2 k3 hk
 have HSL : Hid (zC 31 #[.agg #[.int .i64 x.me, .int .i64 x.rv, .int .i64 x.nx, .int .i64 x.mo, .int .i64 x.bo, .int .i64 x.fr, .slice p len cap]] W0 λe w' => BPost W0 (RekeyIs x) e w') := acc.krekey _ x p len cap H0A.out
 go_wp2_with refine zw ?_
 clear qv0
 refine HSL.out.mono ?_
 rintro e w1 ⟨b, l, pb, lb, cb, f, rfl, hi, hf, hb1⟩
 have hW1 := hb1.size
 have HI := zh hi
 have HF1 : Hid (deb.Fresh w1 W0.heap.size pb lb cb b.ds) := hf
 obtain⟨H1a, H1v, H1r, H1l, H1W⟩ := zn5 hb1 H0a H0v H0r H0l H0W
 have H1B := shB H0B hb1
 clear hi hf hb1 q2 q3
 unfold acc.Ac.v acc.Ac.cs acc.Bi.v
 go_wp2_with (first|refine zs ?_|refine zw ?_)
 intro V1 hU
 obtain⟨H2a, H2v⟩ := zk2 hU H1a H1v
 have H2r := zh hU.blk
 obtain⟨H2l, H2W⟩ := zk2 hU H1l H1W
 have H2B := zk hU H1B
 clear H1a H1v H1r H1l H1W H1B
 have HF2 : Hid (deb.Fresh V1 W0.heap.size pb lb cb b.ds) := fresh_updN HF1.out hU (λhn y hy => by have f1 := HF1.out.new hn y hy; omega)
 clear hU
 go_wp2_with (first|refine zs ?_|refine zw ?_)
 intro V2 hU
 obtain⟨H3a, H3v, H3r⟩ := zk3 hU H2a H2v H2r
 have H3l := zh hU.blk
 have H3W := zk1 hU H2W
 have H3B := zk hU H2B
 have HF3 : Hid (deb.Fresh V2 W0.heap.size pb lb cb b.ds) := fresh_updN HF2.out hU (λhn y hy => by have f1 := HF2.out.new hn y hy; omega)
 clear hU
 obtain⟨Rr0, Rr1, Rr2, Rr3, Rr4, Rr5, Rr6⟩ := shc7 H3r
 obtain⟨Rl0, Rl1, Rl2, Rl3, Rl4, Rl5, Rl6⟩ := shc7 H3l
 go_wp2_with fail
 exact zr (.tuple #[.agg #[.int .i64 b.me, .int .i64 b.rv, .int .i64 b.nx, .int .i64 b.mo, .int .i64 b.bo, .int .i64 b.fr, .slice pb lb cb], .agg #[.int .i64 l.id, .int .i64 l.te, .int .i64 l.de, .int .i64 l.fe, .int .i64 l.pr, .int .i64 l.ch, .int .i64 l.un], .int .i64 f]) (by simp[results, Tryz.results183, Rr0.out, Rr1.out, Rr2.out, Rr3.out, Rr4.out, Rr5.out, Rr6.out, Rl0.out, Rl1.out, Rl2.out, Rl3.out, Rl4.out, Rl5.out, Rl6.out, go_sem]) ⟨b, l, pb, lb, cb, f, rfl, .inr (.inr ⟨HK.out, HI.out⟩), HF3.out.low HS0.out, H3B.out⟩
end book
namespace words
open Go.RowKit
theorem overStep_any(B M:Nat)(n x d:Int)(w:World)(hc:w.cell? ⟨B,0,none⟩=some (.int .u64 n))(hf:w.frozen? ⟨B,0,none⟩=false)(hm:w.cell? ⟨M,0,none⟩=some (.int .u32 d))(hBM:M≠B)(n0:0≤n)(n1:n<d)(x0:0≤x)(x1:x<4294967296)(d0:0<d)(d1:d<4294967296):
  Calls Tryz.prog 169 #[.int .u32 x,.pointer (some ⟨B,0,none⟩),.pointer (some ⟨M,0,none⟩)] w λe w'=>e=.returned (.int .u32 ((n*4294967296+x)/d))∧Acc w w' B (.int .u64 ((n*4294967296+x)%d)):=by
 have a:Acc w w B (.int .u64 n):=Acc.refl hc hf;have b:Hid (Acc w w B (.int .u64 n)):=a;have c:=or_words n x n0 (by omega) x0 x1;have q:=word_div d0 n0 n1 x0 x1;obtain⟨f,g⟩:=q;have h:0≤(n*4294967296+x)%d:=Int.emod_nonneg _ (by omega);have i:(n*4294967296+x)%d<d:=Int.emod_lt_of_pos _ d0;clear a;go_enter Tryz.func169,Tryz.ntmps169;go_wp2_with fail;go_ret;exact⟨rfl,b.o.set _⟩
theorem run_overStep(args:Array Value)(w:World):(callFunc 169 args).run Tryz.prog w=.ok (.enter 169 args) w:=by kernel_rfl
theorem over_any(x:W3)(d:Int)(w:World)(hx:x.ok)(d0:0<d)(d1:d<4294967296):
  Calls Tryz.prog 125 #[wv x,.int .u32 d] w λe w'=>e=.returned (.tuple #[wv (overW x d),.int .u32 (overR x d),zI 0])∧zB w w':=by
 obtain⟨c,b,a⟩:=x;obtain⟨⟨D,m⟩,⟨E,n⟩,F,p⟩:=hx;simp only at D m E n F p;have I:(d==0)=false:=by simp;omega
 go_enter Tryz.func125,Tryz.ntmps125;go_wp2_with fail;have i:=trio_d w #[.int .u32 c,.int .u32 b,.int .u32 a] (.int .u32 d) 83 (.int .u32 0) (.int .u32 0) (.int .u32 0) (.int .u64 0) 174;have q:=bel4 w (.cells #[.int .u32 c,.int .u32 b,.int .u32 a] 135) (.cells #[.int .u32 d] 83) (.cells #[.int .u32 0,.int .u32 0,.int .u32 0] 135) (.cells #[.int .u64 0] 174);have C:(0:Int)*4294967296+a=a:=by omega
 have A:0≤a%d:=Int.emod_nonneg _ (by omega);have s:a%d<d:=Int.emod_lt_of_pos _ d0;have y:0≤((a%d)*4294967296+b)%d:=Int.emod_nonneg _ (by omega);have r:((a%d)*4294967296+b)%d<d:=Int.emod_lt_of_pos _ d0
 refine (downward_any 169 #[.pointer (some ⟨w.heap.size+1+1+1,0,none⟩),.pointer (some ⟨w.heap.size+1,0,none⟩)] (w.heap.size+1+1+1) (.int .u64 0) (.int .u64 (a % d)) (.int .u64 (((a % d)*4294967296+b) % d)) (.int .u64 (((((a % d)*4294967296+b) % d)*4294967296+c) % d)) c b a
  (((((a%d)*4294967296+b)%d)*4294967296+c)/d) (((a%d)*4294967296+b)/d) (a/d) _ (Acc.refl i.1 i.2.1) run_overStep
  (λw' h=>by have:=overStep_any (w.heap.size+1+1+1) (w.heap.size+1) 0 a d w' h.cell h.free (h.keep i.2.2.2 (by omega)) (by omega) (by omega) (by omega) F p d0 d1;rw[C] at this;exact this)
  (λw' h=>overStep_any _ _ _ _ _ w' h.cell h.free (h.keep i.2.2.2 (by omega)) (by omega) A s E n d0 d1)
  (fun w' h=>overStep_any _ _ _ _ _ w' h.cell h.free (h.keep i.2.2.2 (by omega)) (by omega) y r D m d0 d1)).mono ?_
 rintro e t ⟨G,k⟩;have g:Trio t (w.heap.size+1+1) (.int .u32 0) (.int .u32 0) (.int .u32 0):=i.2.2.1.acc k (by omega);have B:Hid (zB w t):=k.below q (by omega);have j:=k.cell;have J:w.heap.size+1+1+1<t.heap.size:=Nat.lt_of_lt_of_le k.old k.size;have K:0≤((((a%d)*4294967296+b)%d)*4294967296+c)%d:=Int.emod_nonneg _ (by omega);have L:((((a%d)*4294967296+b)%d)*4294967296+c)%d<d:=Int.emod_lt_of_pos _ d0
 have l:Hid (Ending.returned (.tuple #[wv (overW ⟨c,b,a⟩ d),.int .u32 (overR ⟨c,b,a⟩ d),zI 0])=Ending.returned (.tuple #[.agg #[.int .u32 (((((a%d)*4294967296+b)%d)*4294967296+c)/d),.int .u32 (((a%d)*4294967296+b)/d),.int .u32 (a/d)],.int .u32 (((((a%d)*4294967296+b)%d)*4294967296+c)%d),zI 0])):=by
  have:Ending.returned (.tuple #[wv (overW ⟨c,b,a⟩ d),.int .u32 (overR ⟨c,b,a⟩ d),zI 0])=Ending.returned (.tuple #[.agg #[.int .u32 (((((a%d)*4294967296+b)%d)*4294967296+c)/d),.int .u32 (((a%d)*4294967296+b)/d),.int .u32 (a/d)],.int .u32 (((((a%d)*4294967296+b)%d)*4294967296+c)%d),zI 0]):=rfl;exact this
 clear k i q C y r A s;have f:Hid (e=.returned (.agg #[.int .u32 (((((a%d)*4294967296+b)%d)*4294967296+c)/d),.int .u32 (((a%d)*4294967296+b)/d),.int .u32 (a/d)])):=G;clear G;generalize hz:((((a%d)*4294967296+b)%d)*4294967296+c)%d=z at j K L l f;generalize hy0:((((a%d)*4294967296+b)%d)*4294967296+c)/d=y0 at l f;generalize hy1:((a%d)*4294967296+b)/d=y1 at l f;generalize hy2:a/d=y2 at l f;clear hz hy0 hy1 hy2;obtain rfl:=f.o;have g:=g.alloc (.cells #[.int .u32 y0,.int .u32 y1,.int .u32 y2] 135);have P:=g.c0;have y:=g.c1;have A:=g.c2;have M:=g.free 0;have N:=g.free 1;have O:=g.free 2;have H:Hid (Trio (t.alloc (.cells #[.int .u32 y0,.int .u32 y1,.int .u32 y2] 135)) (w.heap.size+1+1) (.int .u32 0) (.int .u32 0) (.int .u32 0)):=g;clear g;go_wp2_with fail;go_region
 all_goals go_wp2_with fail
 have u:=((H.o.set0 (.int .u32 y0)).set1 (.int .u32 y1)).set2 (.int .u32 y2);refine bodyPost_ret (v:=.tuple #[.agg #[.int .u32 y0,.int .u32 y1,.int .u32 y2],.int .u32 z,zI 0]) (by simp[results,Tryz.results125,u.c0,u.c1,u.c2,go_sem]) rfl ⟨l.o.symm,?_⟩;exact below_put (B.o.alloc B.o.size _) _ _ _ _ _ _ _ (by omega)
def Dg(w:World)(D:Nat)(d:Nat→Int):Prop:=w.heap[D]?=some (.cells ((List.range 29).map λi=>Value.int .u8 (d i)).toArray 192 (0,0))
variable {w w':World} {D:Nat} {d:Nat→Int}
theorem Dg.cell(h:Dg w D d){i:Nat}(hi:i<29):w.cell? ⟨D,i,none⟩=some (.int .u8 (d i)):=by unfold Dg at h;simp[World.cell?,h,hi]
theorem Dg.free(h:Dg w D d)(i:Nat):w.frozen? ⟨D,i,none⟩=false:=by unfold Dg at h;simp[World.frozen?,h]
theorem Dg.lt(h:Dg w D d):D<w.heap.size:=by
 by_cases a:D<w.heap.size
 ·exact a
 ·unfold Dg at h;rw[Array.getElem?_eq_none (by omega)] at h;cases h
theorem Dg.below(h:Dg w D d)(hb:zB w w'):Dg w' D d:=by
 have a:=h.lt;unfold Dg at *;rw[hb.block D a];exact h
theorem Dg.other(h:Dg w D d){G:Nat}(i:Nat)(u:Value)(hne:G≠D):Dg (w.setCell ⟨G,i,none⟩ u) D d:=by
 unfold Dg at *;simp only[World.setCell,Array.getElem?_modify];rw[if_neg hne];exact h
def updd(d:Nat→Int)(i:Nat)(v:Int):Nat→Int:=λk=>if k=i then v else d k
theorem Dg.set(h:Dg w D d)(i:Nat)(v:Int):Dg (w.setCell ⟨D,i,none⟩ (.int .u8 v)) D (updd d i v):=by
 unfold Dg at *;simp only[World.setCell,Array.getElem?_modify,h,if_true,Option.map_some]
 congr 2
 simp only[Option.isSome_none,Bool.false_eq_true,if_false];apply Array.ext';simp only[Array.toList_setIfInBounds];apply List.ext_getElem?;intro k;by_cases a:k<29
 ·by_cases e:k=i
  ·subst e;simp[updd,a]
  ·rw[List.getElem?_set_ne (by omega)];simp[updd,a,e]
 ·rw[List.getElem?_eq_none (by simp;omega),List.getElem?_eq_none (by simp;omega)]
def dsOf(d:Nat→Int)(t:Nat):List Int:=(List.range t).map λi=>d (29-t+i)
theorem dsOf_len(d:Nat→Int)(t:Nat):(dsOf d t).length=t:=by simp[dsOf]
theorem dsOf_upd(d:Nat→Int)(t:Nat)(v:Int)(ht:t<29):dsOf (updd d (28-t) v) (t+1)=v::dsOf d t:=by
 unfold dsOf;rw[List.range_succ_eq_map,List.map_cons,List.map_map]
 congr 1
 ·simp[updd]
 ·apply List.map_congr_left;intro i a;simp[updd]
  congr 1
  omega
theorem dg_new(w:World)(o:Obj):Dg ((w.alloc o).alloc (.cells ((List.range 29).map λ_=>Value.int .u8 0).toArray 192)) (w.heap.size+1) (λ_=>0):=by
 show ((w.heap.push o).push _)[w.heap.size+1]?=_;have:w.heap.size+1=(w.heap.push o).size:=by simp
 rw[this,Array.getElem?_push_size]
def ShowInv(V:Nat)(X:W3)(d:Nat→Int)(t:Nat):Prop:=
 (t=0∧X.val=V)∨(0<t∧X.val=0∧decL V=dsOf d t)∨(0<t∧0<X.val∧decL V=decL X.val.toNat++dsOf d t)
theorem show_more{V:Nat}{X:W3}{d:Nat→Int}{t:Nat}(hV:(V:Int)<top)(h:ShowInv V X d t)(hgo:t=0∨0<X.val)(hX:X.ok):
  t<29∧ShowInv V (overW X 10) (updd d (28-t) (48+overR X 10)) (t+1):=by
 have r:=over_val X 10;have q:=over_left (w:=X) 10 (by omega);have p:=(W3.bd (over_ok hX (d:=10) (by omega))).1;have e:=decL_len29 V hV
 have j:t<29:=by
  rcases h with⟨a,_⟩|⟨a,f,b⟩|⟨a,f,b⟩
  ·omega
  ·omega
  ·rw[b,List.length_append,dsOf_len] at e;have o:1≤(decL X.val.toNat).length:=(decL_len29 _ (by have:=(W3.bd hX).2;omega)).1;omega
 refine⟨j,?_⟩
 have i:decL V=decL X.val.toNat++dsOf d t:=by
  rcases h with⟨a,f⟩|⟨a,f,b⟩|⟨_,_,b⟩
  ·subst a;rw[f];simp[dsOf]
  ·omega
  ·exact b
 have c:=dsOf_upd d t (48+overR X 10) j;by_cases m:X.val<10
 ·right;left;have k:(overW X 10).val=0:=by omega
  have g:overR X 10=X.val:=by omega
  refine⟨by omega,k,?_⟩;rw[i,c,decL_one (by omega),g];have n:=(W3.bd hX).1;rw[show ((X.val.toNat:Nat):Int)=X.val by omega];rfl
 ·right;right;refine⟨by omega,by omega,?_⟩;rw[i,c,decL_more (by omega)];have g:X.val.toNat/10=(overW X 10).val.toNat:=by omega
  have l:((X.val.toNat%10:Nat):Int)=overR X 10:=by omega
  rw[g,l,List.append_assoc];rfl
theorem zero_iff{X:W3}(hX:X.ok):X.val=0↔X=⟨0,0,0⟩:=by
 obtain⟨⟨d,_⟩,⟨e,_⟩,f,_⟩:=hX;constructor
 ·intro h;unfold W3.val at h;obtain⟨a,b,c⟩:=X;simp only at *;have:a=0:=by omega
  have:b=0:=by omega
  have:c=0:=by omega
  subst_vars;rfl
 ·intro h;rw[h];rfl
def strOf(ns:List Int):ByteArray:=ns.foldl (λr n=>r.push (UInt8.ofNat n.toNat)) ByteArray.empty
theorem conv_ds(w:World)(D:Nat)(d:Nat→Int)(t:Nat)(ht:t≤29)(h:Dg w D d):
  (convert 195 9 (.slice (some ⟨D,29-t,none⟩) t t)).run Tryz.prog w=.ok (.string (strOf (dsOf d t))) w:=by
 rw[run_convert_bytes_string _ _ _ _ _ _ _ Tryz.underlying195 Tryz.underlying5 Tryz.underlying9,run_bytesToString _ _ _ _ (dsOf d t)]
 ·rfl
 ·have:=run_loadCells (P:=Tryz.prog) w ⟨D,29-t,none⟩ t (λi=> .int .u8 (d (29-t+i))) (λj a=>by rw[Addr.add_lit];exact h.cell (by omega));rw[this]
  congr 2
  simp[dsOf]
theorem slice_ds(D t:Nat)(w:World)(h0:0<t)(h1:t≤29):
  (Instr.sliceAt 192 (.pointer (some ⟨D,0,none⟩)) (some (zI ((29-t:Nat):Int))) none none).run Tryz.prog w=.ok (.slice (some ⟨D,29-t,none⟩) t t) w:=by
 have a:29-(29-t)=t:=by omega
 simp[Instr.sliceAt,Instr.sliceBounds,Instr.sliceBound,asIntOf,run_underlying Tryz.underlying192,go_sem,a];omega
theorem show_any(x:W3)(w:World)(hx:x.ok):
  Calls Tryz.prog 79 #[wv x] w λe w'=>e=.returned (.string (strOf (decL x.val.toNat)))∧zB w w':=by
 have a5:=W3.bd hx;have HX:Hid (x.ok):=hx;have a1:Hid (∀V W:Obj,zB w ((w.alloc V).alloc W)):=λV W=>bel2 w V W;clear hx;go_enter Tryz.func79,Tryz.ntmps79;go_wp2_with fail;go_loopw [4] (λv wr=>∃(t:Nat)(X:W3)(d:Nat→Int),t≤29∧v=zI ((29-t:Nat):Int)∧X.ok∧Wat wr w.heap.size X∧Dg wr (w.heap.size+1) d∧zB w wr∧ShowInv x.val.toNat X d t) (λv _=>(intOf v).toNat)
 case atStart=>exact⟨0,x,λ_=>0,by omega,rfl,HX.o,trio_a _ _ _ _ _,dg_new _ _,bel2 _ _ _,.inl ⟨rfl,by omega⟩⟩
 case round=>
  obtain⟨t,X,d,S,rfl,p,n,I,J,K⟩:=hrel;by_cases s:t=0∨0<X.val
  ·obtain⟨a0,hm⟩:=show_more (by omega) K s p;have Z:Hid (ShowInv x.val.toNat (overW X 10) (updd d (28-t) (48+overR X 10)) (t+1)):=hm;have U:=(zero_iff p)
   have A:Hid (Wat wr w.heap.size X):=n;have z:Hid (Dg wr (w.heap.size+1) d):=I;have l:Hid (zB w wr):=J;have c0:=n.c0;have c1:=n.c1;have c2:=n.c2;clear n I J K hm;have a2:((29-t:Nat):Int)-1=((28-t:Nat):Int):=by omega
   have a3:28-t<29:=by omega
   have Y:Hid (29-(t+1)=28-t):=(by omega:29-(t+1)=28-t)
   by_cases h0:t=0
   ·have F:(((29-t:Nat):Int)==29)=true:=by simp;omega
    have L:((29-t:Nat):Int)≤29:=by omega
    clear s U S;generalize 29-t=f at *;generalize 28-t=g at *;go_wp2_with fail;refine(over_any X 10 _ p (by omega) (by omega)).mono ?_;rintro e y ⟨rfl,j⟩;have M:=over_ok p (d:=10) (by omega);have R:=over_left (w:=X) 10 (by omega);have k:=A.o.below j;have D:=z.o.below j;have B:=l.o.trans (j.mono l.o.size);clear j c0 c1 c2;generalize overW X 10=Q at *;generalize overR X 10=r at *;have c0:=k.c0;have c1:=k.c1;have c2:=k.c2;have f0:=k.free 0;have f1:=k.free 1;have f2:=k.free 2;have E:=k.put (.int .u32 Q.a) (.int .u32 Q.b) (.int .u32 Q.c);have m:=((D.other (G:=w.heap.size) 0 (.int .u32 Q.a) (by omega)).other (G:=w.heap.size) 1 (.int .u32 Q.b) (by omega)).other (G:=w.heap.size) 2 (.int .u32 Q.c) (by omega);have C:=below_put3 B w.heap.size (.int .u32 Q.a) (.int .u32 Q.b) (.int .u32 Q.c) zc;have d1:=m.cell (i:=g) (by omega);have d2:=m.free g;have A:Hid (Wat ((put3 y w.heap.size (.int .u32 Q.a) (.int .u32 Q.b) (.int .u32 Q.c)).setCell ⟨w.heap.size+1,g,none⟩ (.int .u8 (48+r))) w.heap.size Q):=E.other _ _ (by omega);have z:Hid (Dg ((put3 y w.heap.size (.int .u32 Q.a) (.int .u32 Q.b) (.int .u32 Q.c)).setCell ⟨w.heap.size+1,g,none⟩ (.int .u8 (48+r))) (w.heap.size+1) (updd d g (48+r))):=m.set _ _;have l:Hid (zB w ((put3 y w.heap.size (.int .u32 Q.a) (.int .u32 Q.b) (.int .u32 Q.c)).setCell ⟨w.heap.size+1,g,none⟩ (.int .u8 (48+r)))):=below_set C _ _ _ (by omega);clear k D B E m C;obtain⟨r0,r1⟩:=R;generalize d g=dd at *;go_wp2_with fail;go_roundw
    case rel=>exact⟨t+1,Q,_,by omega,by rw[Y.o],M,A.o,z.o,l.o,Z.o⟩
    case measure=>simp[intOf];omega
   ·have P:X≠⟨0,0,0⟩:=λe=>by have:=U.2 e;omega
    have q:=eq3_other P;have F:(((29-t:Nat):Int)==29)=false:=by simp;omega
    have L:((29-t:Nat):Int)≤29:=by omega
    clear s U;generalize 29-t=f at *;generalize 28-t=g at *;go_wp2_with fail;refine(over_any X 10 _ p (by omega) (by omega)).mono ?_;rintro e y ⟨rfl,j⟩;have M:=over_ok p (d:=10) (by omega);have R:=over_left (w:=X) 10 (by omega);have k:=A.o.below j;have D:=z.o.below j;have B:=l.o.trans (j.mono l.o.size);clear j c0 c1 c2;generalize overW X 10=Q at *;generalize overR X 10=r at *;have c0:=k.c0;have c1:=k.c1;have c2:=k.c2;have f0:=k.free 0;have f1:=k.free 1;have f2:=k.free 2;have E:=k.put (.int .u32 Q.a) (.int .u32 Q.b) (.int .u32 Q.c);have m:=((D.other (G:=w.heap.size) 0 (.int .u32 Q.a) (by omega)).other (G:=w.heap.size) 1 (.int .u32 Q.b) (by omega)).other (G:=w.heap.size) 2 (.int .u32 Q.c) (by omega);have C:=below_put3 B w.heap.size (.int .u32 Q.a) (.int .u32 Q.b) (.int .u32 Q.c) zc;have d1:=m.cell (i:=g) (by omega);have d2:=m.free g;have A:Hid (Wat ((put3 y w.heap.size (.int .u32 Q.a) (.int .u32 Q.b) (.int .u32 Q.c)).setCell ⟨w.heap.size+1,g,none⟩ (.int .u8 (48+r))) w.heap.size Q):=E.other _ _ (by omega);have z:Hid (Dg ((put3 y w.heap.size (.int .u32 Q.a) (.int .u32 Q.b) (.int .u32 Q.c)).setCell ⟨w.heap.size+1,g,none⟩ (.int .u8 (48+r))) (w.heap.size+1) (updd d g (48+r))):=m.set _ _;have l:Hid (zB w ((put3 y w.heap.size (.int .u32 Q.a) (.int .u32 Q.b) (.int .u32 Q.c)).setCell ⟨w.heap.size+1,g,none⟩ (.int .u8 (48+r)))):=below_set C _ _ _ (by omega);clear k D B E m C;obtain⟨r0,r1⟩:=R;generalize d g=dd at *;go_wp2_with fail;go_roundw
    case rel=>exact⟨t+1,Q,_,by omega,by rw[Y.o],M,A.o,z.o,l.o,Z.o⟩
    case measure=>simp[intOf];omega
  ·have T:0<t:=by omega
   have H:X.val=0:=by have:=(W3.bd p).1;omega
   have N:=(zero_iff p).1 H
   have u:decL x.val.toNat=dsOf d t:=by
    rcases K with h|⟨_,_,h⟩|h
    ·omega
    ·exact h
    ·omega
   subst N;have c0:=n.c0;have c1:=n.c1;have c2:=n.c2;have q:=eq3_same ⟨0,0,0⟩;have F:(((29-t:Nat):Int)==29)=false:=by simp;omega
   have a4:=slice_ds (w.heap.size+1) t wr T S;have O:=conv_ds wr (w.heap.size+1) d t S I;rw[← u] at O;have l:Hid (zB w wr):=J;clear K s H u n I J p;go_wp2_with fail;go_ret;exact⟨rfl,l.o⟩
end words
end Go.Proofs.YtoepgdhiepedeaaGreatDoor
