import Derived.Test.YtnpblpbohcegoaaGreatDoorVBTed20
import Derived.Test.YtnpblpbohcegoaaGreatDoorVBTed21
import Derived.Test.YtnpblpbohcegoaaGreatDoorVBTed23
import Derived.Test.YtnpblpbohcegoaaGreatDoorVBTed25
import Derived.Test.YtnpblpbohcegoaaGreatDoorVBTed27
import Derived.Test.YtnpblpbohcegoaaGreatDoorVBTed28
set_option linter.unusedVariables false
set_option linter.unusedSimpArgs false
set_option maxHeartbeats 4000000
set_option maxRecDepth 100000
namespace Go.Proofs.YtnpblpbohcegoaaGreatDoor
namespace vnd
open book (Ev ev0 Cm cm0 So so0 Sees)
open acc (Ac Tm Bi)
open ora (Pr)
open cell (Wr RowU RowW)
open rcp (Rc rc0)
open Go.RowKit
theorem served_any {w:World} (K0:KvCha) (K1:KvGrant w) (K2:KvRekey w) (K3:KvSell w) (t:Tm) (pt:Option Addr) (lt ct:Nat) (a:Option Addr) (n cap:Nat) (c:List Int) (ao:Option Addr) (no ko:Nat) (o:List Pr) (x:Od) (ht:acc.TCame w t pt lt ct) (h:Dk w a n cap c) (ho:ora.Came w ao no ko o) (hx:wf5 x):Calls Tryz.prog 21 #[.agg #[.slice pt lt ct,zI t.ff,zI t.fb,zI t.db,zI t.al,.slice a n cap,.slice ao no ko],.agg #[zI x.k,zI x.m,zI x.a,zI x.b,zI x.d]] w fun e w'=>ServePost w ao no (ServedIs t c o x) e w':=by
 by_cases h0:check.pick x.k 8=0
 ·exact served0 K0 t pt lt ct a n cap c ao no ko o x w ht h ho hx h0
 ·by_cases h1:check.pick x.k 8=1
  ·exact served1 K1 t pt lt ct a n cap c ao no ko o x ht h ho hx h1
  ·by_cases h2:check.pick x.k 8=2
   ·exact served2 K2 t pt lt ct a n cap c ao no ko o x ht h ho hx h2
   ·exact served3 K3 t pt lt ct a n cap c ao no ko o x ht h ho hx ⟨h0,h1,h2⟩
end vnd
namespace acc
open tar (Du du0 Came RowD Ld PairT)
open Go.RowKit
theorem powe1 (B0 g:Nat) (x:Ac) (p:Option Addr) (len cap:Nat) (q:Du) (w:World) (hB0:Blk w B0 #[zI q.a,zI q.b] 70) (hw:Blk w g (wcs x bi0 p len cap) 252) (hl:Ld 70 w (g+1) (.slice p len cap) x.ds) (ha:AMay x):Calls Tryz.prog 118 #[.pointer (some ⟨g,0,none⟩),.pointer (some ⟨B0,0,none⟩)] w fun e w'=>WPost w g (Or0 (fun y _ f=>OweIs x q y f)) e w':=by
 have HIN:Hid (Calls Tryz.prog 119 #[.pointer (some ⟨g,0,none⟩),.agg #[zI q.a,zI q.b]] w fun e w'=>WPost w g (Or0 (fun y _ f=>OweIs x q y f)) e w'):=powe g x p len cap q w hw hl ha;have HK0:Hid (Blk w B0 #[zI q.a,zI q.b] 70):=hB0;clear hw ha hl;go_enter Tryz.func118,Tryz.ntmps118;go_wp2_with (first | (refine zqw rfl rfl rfl HK0 zqu70 ?_) | fail)
 refine HIN.o.mono ?_;rintro e w1 hx;have HX:Hid (WPost w g (Or0 (fun y _ f=>OweIs x q y f)) e w1):=hx;obtain ⟨y,b,q2,n,c,f,rfl,_⟩:=hx;clear HIN;go_wp2_with fail;go_ret;exact HX.o
theorem kowe:KcOwe:=by
 intro w x p len cap q ha hq;unfold Ac.v Ac.cs;obtain ⟨W0,HWW,H0d,H0e,H0r,H0B,hs0⟩:=sh3 w #[zI x.me,zI x.rv,zI x.nx,zI x.mo,zI x.bo,zI x.fr,.slice p len cap] 51 #[zI q.a,zI q.b] 70 #[zI 0,zI 0,zI 0,zI 0,zI 0,zI 0,zS] 51;have H0R:Hid (Came W0 p len cap x.ds):=ha.ds.below H0B.o;go_enter Tryz.func75,Tryz.ntmps75;go_upto_region 1 with fail
 rw [HWW.o];clear HWW;have HXe:Hid (∀ W,Below W0.heap.size W0 W→Blk W (w.heap.size+1) #[zI q.a,zI q.b] 70):=fun W hW=>H0e.o.next hW
 have HWK:Hid (Calls Tryz.prog 117 #[.agg #[zI x.me,zI x.rv,zI x.nx,zI x.mo,zI x.bo,zI x.fr,.slice p len cap],.func (.func 118) #[] #[.pointer (some ⟨w.heap.size+1,0,none⟩)]] W0 fun e w'=>BPost W0 (fun y _ f=>OweIs x q y f) e w'):=by
  refine pwork 118 #[.pointer (some ⟨w.heap.size+1,0,none⟩)] (fun y _ f=>OweIs x q y f) x p len cap W0 H0R.o (fun h=> .inl ⟨h,rfl,rfl⟩) (fun _ _=>by kernel_rfl) ?_;intro hm W g p' cap' hB hg hblk hld;exact powe1 _ g x p' len cap' q W (HXe.o W hB) hblk hld hm
 clear ha HXe
 go_wp2_with (first
  | (refine zqw rfl rfl rfl H0d zqu51 ?_)
  | (refine zqw rfl rfl rfl H0e zqu70 ?_)
  | (refine zqw rfl rfl rfl H0r zqu51 ?_)
  | fail)
 refine HWK.o.mono ?_;rintro e w1 ⟨b,l,pr,lr,cr,fz,rfl,hi,hf,hb1⟩;have H1d:=shN H0d hb1;have H1e:=shN H0e hb1;have H1r:=shN H0r hb1;have H1R:Hid (Came w1 p len cap x.ds):=H0R.o.below hb1;have H1B:=shB H0B hb1;have hsw1:W0.heap.size≤w1.heap.size:=hb1.size;clear hb1 H0d H0e H0r H0R H0B;unfold Ac.v Ac.cs Bi.v;clear HWK;have H2F:Hid (deb.Fresh w1 W0.heap.size pr lr cr b.ds):=hf;have HUPF:Hid (0<lr→∀ y,pr=some y→y.block<w1.heap.size):=came_lt H2F.o.came;have HV:Hid (OweIs x q b fz):=hi;clear hf hi;obtain ⟨W4,HWW,H3n,H3c,HBB,hsW4⟩:=sh2 w1 #[zI b.me,zI b.rv,zI b.nx,zI b.mo,zI b.bo,zI b.fr,.slice pr lr cr] 51 #[zI l.id,zI l.te,zI l.de,zI l.fe,zI l.pr,zI l.ch,zI l.un] 68;have H3d:=shN H1d HBB.o;have H3e:=shN H1e HBB.o;have H3r:=shN H1r HBB.o;have H3F:Hid (deb.Fresh W4 W0.heap.size pr lr cr b.ds):=H2F.o.below HBB.o;have H3B:=shB H1B HBB.o;clear H1d H1e H1r H2F H1B;go_upto_region 2 with fail
 rw [HWW.o];clear HWW HBB
 go_wp2_with (first
  | (refine zql rfl rfl rfl rfl zqu51 (by simp [Value.oneCell']) H3r rfl ?_)
  | (refine zqw rfl rfl rfl H3d zqu51 ?_)
  | (refine zqw rfl rfl rfl H3e zqu70 ?_)
  | (refine zqw rfl rfl rfl H3r zqu51 ?_)
  | (refine zqw rfl rfl rfl H3n zqu51 ?_)
  | (refine zqw rfl rfl rfl H3c zqu68 ?_)
  | fail)
 intro W5 hU;have H4d:=shK hU H3d (by omega);have H4e:=shK hU H3e (by omega);have H4r:Hid (Blk W5 (w.heap.size+1+1) #[zI b.me,zI b.rv,zI b.nx,zI b.mo,zI b.bo,zI b.fr,.slice pr lr cr] 51):=hU.blk;have H4n:=shK hU H3n (by omega);have H4c:=shK hU H3c (by omega);have H4F:Hid (deb.Fresh W5 W0.heap.size pr lr cr b.ds):=fresh_updN H3F.o hU (fun hn y hy=>by have f1:=H3F.o.new hn y hy;have f2:=HUPF.o hn y hy;omega);have H4B:=shV hU H3B (by omega);have hsW5:W5.heap.size=W4.heap.size:=hU.size;clear hU H3d H3e H3r H3n H3c H3F H3B;obtain ⟨Rr0,Rr1,Rr2,Rr3,Rr4,Rr5,Rr6⟩:=shc7 H4r;go_wp2_with fail;exact bodyPost_ret (v:= .tuple #[.agg #[zI b.me,zI b.rv,zI b.nx,zI b.mo,zI b.bo,zI b.fr,.slice pr lr cr],zI fz]) (by simp [results,Tryz.results75,Rr0.o,Rr1.o,Rr2.o,Rr3.o,Rr4.o,Rr5.o,Rr6.o,go_sem]) rfl ⟨b,pr,lr,cr,fz,rfl,HV.o,H4F.o.low (by omega),H4B.o⟩
end acc
namespace words
open Go.RowKit
theorem timesStep_any (B M:Nat) (n x m:Int) (w:World) (hc:w.cell? ⟨B,0,none⟩=some (.int .u64 n)) (hf:w.frozen? ⟨B,0,none⟩=false) (hm:w.cell? ⟨M,0,none⟩=some (.int .u32 m)) (h0:0≤n) (h1:n<4294967296) (x0:0≤x) (x1:x<4294967296) (m0:0≤m) (m1:m<4294967296) :
  Calls Tryz.prog 130 #[.int .u32 x,.pointer (some ⟨B,0,none⟩),.pointer (some ⟨M,0,none⟩)] w fun e w'=>e = .returned (.int .u32 ((n+x*m) % 4294967296))∧Acc w w' B (.int .u64 ((n+x*m) / 4294967296)):=by
 have hA:Acc w w B (.int .u64 n):=Acc.refl hc hf;have HA:Hid (Acc w w B (.int .u64 n)):=hA;obtain ⟨p1,p2⟩:=prod_bd x0 x1 m0 m1;clear hA;go_enter Tryz.func130,Tryz.ntmps130;go_wp2_with fail;refine (cutWord_any B (n+x*m) _ (by apply World.cell?_setCell_same;exact hc) (by rw [World.frozen?_setCell];exact hf)).mono ?_;rintro e w' ⟨rfl,rfl⟩;go_wp2_with fail;go_ret;exact ⟨rfl,(HA.o.set _).set _⟩
end words
namespace book
open Go.RowKit cell
theorem ws_upd {w W:World} {base g:Nat} {cs:Array Value} {t:TypeId} {v:Value} {l:List Int} (h:Ws w base v l) (hU:Upd w W g cs t) (hg:g<base):Ws W base v l:=by
 refine ⟨h.1,?_⟩;rcases h.2 with hn | ⟨g',cap,cur,hv,hb,hc,rest⟩
 ·exact .inl hn
 ·exact .inr ⟨g',cap,cur,hv,hb,by rw [hU.oth g' (by omega)];exact hc,rest⟩
theorem kenc:KEnc:=by
 intro w v hwf;clear hwf;unfold Ev.v;have hmf:∀ (fn:Fn) (first cap:Array Value) (w:World),(Instr.makeFunc fn first cap).run Tryz.prog w = .ok (.func fn first cap) w:=fun _ _ _ _=>rfl;have HMU:Hid (∀ W,Calls Tryz.prog 67 #[.agg #[zI v.kd,zI v.me,zI v.mo,zI v.id,zI v.te,zI v.de,zI v.fe,zI v.pr,zI v.ch,zI v.un,zI v.tg,zI v.ow,zI v.bp]] W fun e w'=>MustPost W v e w'):=fun W=>bmust v W;have HWO:Hid (EMay v→∀ W,Calls Tryz.prog 153 #[.agg #[zI v.kd,zI v.me,zI v.mo,zI v.id,zI v.te,zI v.de,zI v.fe,zI v.pr,zI v.ch,zI v.un,zI v.tg,zI v.ow,zI v.bp]] W fun e w'=>∃ V,e = .returned V∧Ws w' W.heap.size V (evL v)∧Below W.heap.size W w'):=fun hm W=>bwords v (may_word hm) W;obtain ⟨W1,HWW,HX1,HE1,HB1,-⟩:=sh2 w #[zI v.kd,zI v.me,zI v.mo,zI v.id,zI v.te,zI v.de,zI v.fe,zI v.pr,zI v.ch,zI v.un,zI v.tg,zI v.ow,zI v.bp] 72 #[zI 0] 27;go_enter_defers Tryz.func107,Tryz.ntmps107;go_upto_region 2 with fail
 rw [HWW.o];clear HWW;obtain ⟨c0,c1,c2,c3,c4,c5,c6,c7,c8,c9,c10,c11,c12⟩:=scl13 HX1;go_wp2_with fail;refine (HMU.o _).mono ?_;rintro e W2 ⟨hm,hb⟩;have HX2:=shN HX1 hb;have HE2:=shN HE1 hb;have HB2:=shB HB1 hb;clear hb HX1 HE1 HB1 HMU c0 c1 c2 c3 c4 c5 c6 c7 c8 c9 c10 c11 c12;rcases hm with ⟨hm,rfl⟩ | ⟨hm,rfl⟩
 ·have HY:Hid (EMay v):=hm;have HWV:=HWO.o hm;have HWV':Hid (∀ W,Calls Tryz.prog 153 #[.agg #[zI v.kd,zI v.me,zI v.mo,zI v.id,zI v.te,zI v.de,zI v.fe,zI v.pr,zI v.ch,zI v.un,zI v.tg,zI v.ow,zI v.bp]] W fun e w'=>∃ V,e = .returned V∧Ws w' W.heap.size V (evL v)∧Below W.heap.size W w'):=HWV;clear hm HWO HWV;obtain ⟨c0,c1,c2,c3,c4,c5,c6,c7,c8,c9,c10,c11,c12⟩:=scl13 HX2;go_wp2_with fail;refine (HWV'.o _).mono ?_;rintro e W3 ⟨V,rfl,hV,hb⟩;have HE3:=shN HE2 hb;have HB3:=shB HB2 hb;have HV3:Hid (Ws W3 W2.heap.size V (evL v)):=hV;have hgs:Hid (w.heap.size+1<W2.heap.size):=HE2.o.lt;clear hb hV HX2 HE2 HB2 HWV' c0 c1 c2 c3 c4 c5 c6 c7 c8 c9 c10 c11 c12;go_wp2_with (first | (refine wp_let1 rfl 27 _ _ rfl (w.heap.size+1) 0 rfl .i64 0 rfl (by kernel_rfl) #[zI 0] 27 HE3.o (by decide) ?_) | fail)
  intro W4 hU;have HE4:Hid (Blk W4 (w.heap.size+1) #[zI 0] 27):=hU.blk;have HB4:=shV hU HB3 (by omega);have HV4:Hid (Ws W4 W2.heap.size V (evL v)):=ws_upd HV3.o hU hgs.o;clear hU;go_wp2_with fail;refine leaves_cons (f:=152) (args:=#[.pointer (some ⟨w.heap.size+1,0,none⟩)]) (by simp) (by simp [go_sem]) ?_;refine (encode_idle (w.heap.size+1) 0 _ HE4.o).mono ?_;rintro e u' w5 ⟨rfl,hs,W,hb,hU⟩;have r0:w5.cell? ⟨w.heap.size+1,0,none⟩=some (zI 0):=hU.blk.cell 0;have HB5:Below w.heap.size w w5:=hU.bel _ _ (by omega) (bel_step HB4.o hb);have HV5:Ws w5 W2.heap.size V (evL v):=ws_upd (HV4.o.next hb) hU hgs.o;obtain ⟨a,cap,hva,hrow,h1,h2⟩:=HV5.row;show Leaves _ _ _ _ [] (settle u') w5;rw [hs];refine ⟨.tuple #[V,zI 0],by simp [results,Tryz.results107,r0,go_sem],?_⟩;subst hva;exact ⟨a,_,cap,evL v,0,rfl,.inl ⟨HY.o,rfl,rfl⟩,hrow,h1,h2,by rw [evL_len];exact Nat.le_refl _,HB5⟩
 ·have HN:Hid (¬ EMay v):=hm;clear hm HWO;refine leaves_cons (f:=152) (args:=#[.pointer (some ⟨w.heap.size+1,0,none⟩)]) (by simp) (by simp [go_sem]) ?_;refine (encode_caught (w.heap.size+1) 0 5 _ HE2.o).mono ?_;rintro e u' w5 ⟨rfl,hs,W,hb,hU⟩;have r0:w5.cell? ⟨w.heap.size+1,0,none⟩=some (zI 5):=hU.blk.cell 0;have HB5:Below w.heap.size w w5:=hU.bel _ _ (by omega) (bel_step HB2.o hb);show Leaves _ _ _ _ [] (settle u') w5;rw [hs];refine ⟨.tuple #[zS,zI 5],by simp [results,Tryz.results107,r0,go_sem],?_⟩;exact ⟨none,0,0,[],5,rfl,.inr ⟨HN.o,rfl,rfl⟩,RowU.nil _ _,fun _=>rfl,Nat.le_refl _,Nat.zero_le _,HB5⟩
end book
namespace vnd
open disk (RepIs AppIs)
open book (Ev ev0 EMay evL evOf EncIs DecIs Cm cm0 So so0 BookIs Sees ECame FirstAt NoneAt)
open acc (Ac Tm Bi TCame ACame)
open cell (Wr RowU)
open Go.RowKit
theorem pref (x:Int) (w:World):Calls Tryz.prog 122 #[zI x] w fun e w'=>e = .returned (.tuple #[zS,.agg #[zS],.agg #[zI 0,zI 0,zI 0,zI 0,zI 0,zI 0,zI 0,zI 0,.string ⟨#[]⟩],zI x])∧Below w.heap.size w w':=by
 obtain ⟨W0,HWW,H0o,H0r,H0B,hs0⟩:=sh2 w #[zS] 39 #[zI 0,zI 0,zI 0,zI 0,zI 0,zI 0,zI 0,zI 0,.string ⟨#[]⟩] 78;go_enter Tryz.func122,Tryz.ntmps122;go_upto_region 1 with fail
 rw [HWW.o];clear HWW
 go_wp2_with (first
  | (refine zql rfl rfl rfl rfl zqu39 (by simp [Value.oneCell']) H0o rfl ?_)
  | (refine zqw rfl rfl rfl H0o zqu39 ?_)
  | (refine zqw rfl rfl rfl H0r zqu78 ?_)
  | fail)
 intro W1 hU;have H1o:Hid (Blk W1 (w.heap.size) #[zS] 39):=hU.blk;have H1r:=shK hU H0r (by omega);have H1B:=shV hU H0B (by omega);have hsW1:W1.heap.size=W0.heap.size:=hU.size;clear hU H0o H0r H0B
 go_wp2_with (first
  | (refine zql rfl rfl rfl rfl zqu78 (by simp [Value.oneCell']) H1r rfl ?_)
  | (refine zqw rfl rfl rfl H1o zqu39 ?_)
  | (refine zqw rfl rfl rfl H1r zqu78 ?_)
  | fail)
 intro W2 hU;have H2o:=shK hU H1o (by omega);have H2r:Hid (Blk W2 (w.heap.size+1) #[zI 0,zI 0,zI 0,zI 0,zI 0,zI 0,zI 0,zI 0,.string ⟨#[]⟩] 78):=hU.blk;have H2B:=shV hU H1B (by omega);have hsW2:W2.heap.size=W1.heap.size:=hU.size;clear hU H1o H1r H1B;have Ro0:Hid (W2.cell? ⟨w.heap.size,0,none⟩=some (zS)):=H2o.o.cell 0;obtain ⟨Rr0,Rr1,Rr2,Rr3,Rr4,Rr5,Rr6,Rr7,Rr8⟩:=shc9 H2r;go_wp2_with fail;exact bodyPost_ret (v:= .tuple #[zS,.agg #[zS],.agg #[zI 0,zI 0,zI 0,zI 0,zI 0,zI 0,zI 0,zI 0,.string ⟨#[]⟩],zI x]) (by simp [results,Tryz.results122,Ro0.o,Rr0.o,Rr1.o,Rr2.o,Rr3.o,Rr4.o,Rr5.o,Rr6.o,Rr7.o,Rr8.o,go_sem]) rfl ⟨rfl,H2B.o⟩
end vnd
namespace words
open Go.RowKit
theorem downward_any (K:Nat) (caps:Array Value) (B:Nat) (v0 v1 v2 v3:Value) (x0 x1 x2 y0 y1 y2:Int) (w:World) (h:Acc w w B v0) (hK:∀ args w,(callFunc K args).run Tryz.prog w = .ok (.enter K args) w)
  (s0:∀ w',Acc w w' B v0→Calls Tryz.prog K (#[.int .u32 x2]++caps) w' fun e w''=>e = .returned (.int .u32 y2)∧Acc w' w'' B v1)
  (s1:∀ w',Acc w w' B v1→Calls Tryz.prog K (#[.int .u32 x1]++caps) w' fun e w''=>e = .returned (.int .u32 y1)∧Acc w' w'' B v2)
  (s2:∀ w',Acc w w' B v2→Calls Tryz.prog K (#[.int .u32 x0]++caps) w' fun e w''=>e = .returned (.int .u32 y0)∧Acc w' w'' B v3) :
  Calls Tryz.prog 133 #[.agg #[.int .u32 x0,.int .u32 x1,.int .u32 x2],.func (.func K) #[] caps] w fun e w'=>e = .returned (.agg #[.int .u32 y0,.int .u32 y1,.int .u32 y2])∧Acc w w' B v3:=by
 have HS0:Hid (∀ w',Acc w w' B v0→Calls Tryz.prog K (#[.int .u32 x2]++caps) w' fun e w''=>e = .returned (.int .u32 y2)∧Acc w' w'' B v1):=s0;have HS1:Hid (∀ w',Acc w w' B v1→Calls Tryz.prog K (#[.int .u32 x1]++caps) w' fun e w''=>e = .returned (.int .u32 y1)∧Acc w' w'' B v2):=s1;have HS2:Hid (∀ w',Acc w w' B v2→Calls Tryz.prog K (#[.int .u32 x0]++caps) w' fun e w''=>e = .returned (.int .u32 y0)∧Acc w' w'' B v3):=s2;have HA:Hid (Acc w w B v0):=h;clear s0 s1 s2 h;go_enter Tryz.func133,Tryz.ntmps133;go_wp2_with fail;refine wp_loop_rounds 4 ?_;rw [rounds_succ];go_wp2_with fail;refine (HS0.o _ ((HA.o.alloc _).alloc _)).mono ?_;rintro e w1 ⟨rfl,h1⟩;have hB:=HA.o.old;have T1:Trio w1 w.heap.size (.int .u32 x0) (.int .u32 x1) (.int .u32 x2):=(trio_a _ _ _ _ _).acc h1 (by omega);have R1:Trio w1 (w.heap.size+1) (.int .u32 0) (.int .u32 0) (.int .u32 0):=(trio_b _ _ _ _ _).acc h1 (by omega);have A1:=((HA.o.alloc _).alloc _).trans h1;have c2:=T1.c2;have f2:=T1.free 2;have T1':=T1.set2 (.int .u32 y2);have d1:=T1'.c1;have HT:Hid (Trio (w1.setCell ⟨w.heap.size,2,none⟩ (.int .u32 y2)) w.heap.size (.int .u32 x0) (.int .u32 x1) (.int .u32 y2)):=T1';have HR:Hid (Trio (w1.setCell ⟨w.heap.size,2,none⟩ (.int .u32 y2)) (w.heap.size+1) (.int .u32 0) (.int .u32 0) (.int .u32 0)):=R1.other _ _ (by omega);have HA1:Hid (Acc w (w1.setCell ⟨w.heap.size,2,none⟩ (.int .u32 y2)) B v1):=A1.setNew _ _ _ (Nat.le_refl _);clear h1 T1 R1 A1 T1' HA HS0;go_wp2_with fail;rw [rounds_succ];go_wp2_with fail;refine (HS1.o _ HA1.o).mono ?_;rintro e w2 ⟨rfl,h2⟩;have T2:=HT.o.acc h2 (by omega);have R2:=HR.o.acc h2 (by omega);have A2:=HA1.o.trans h2;clear c2 f2 d1 HT HR HA1 HS1 h2;have c1:=T2.c1;have f1:=T2.free 1;have T2':=T2.set1 (.int .u32 y1);have d2:=T2'.c0;have HT:Hid (Trio (w2.setCell ⟨w.heap.size,1,none⟩ (.int .u32 y1)) w.heap.size (.int .u32 x0) (.int .u32 y1) (.int .u32 y2)):=T2';have HR:Hid (Trio (w2.setCell ⟨w.heap.size,1,none⟩ (.int .u32 y1)) (w.heap.size+1) (.int .u32 0) (.int .u32 0) (.int .u32 0)):=R2.other _ _ (by omega)
 have HA2:Hid (Acc w (w2.setCell ⟨w.heap.size,1,none⟩ (.int .u32 y1)) B v2):=A2.setNew _ _ _ (Nat.le_refl _);clear T2 R2 A2 T2';go_wp2_with fail;rw [rounds_succ];go_wp2_with fail;refine (HS2.o _ HA2.o).mono ?_;rintro e w3 ⟨rfl,h3⟩;have T3:=HT.o.acc h3 (by omega);have R3:=HR.o.acc h3 (by omega);have A3:=HA2.o.trans h3;clear c1 f1 d2 HT HR HA2 HS2 h3;have c0:=T3.c0;have f0:=T3.free 0;have T3':=T3.set0 (.int .u32 y0);have R3':=R3.other (G':=w.heap.size) 0 (.int .u32 y0) (by omega);have e0:=T3'.c0;have e1:=T3'.c1;have e2:=T3'.c2;have r0:=R3'.c0;have r1:=R3'.c1;have r2:=R3'.c2;have g0:=R3'.free 0;have g1:=R3'.free 1;have g2:=R3'.free 2;have HR3:Hid (Trio (w3.setCell ⟨w.heap.size,0,none⟩ (.int .u32 y0)) (w.heap.size+1) (.int .u32 0) (.int .u32 0) (.int .u32 0)):=R3';have HA3:Hid (Acc w (w3.setCell ⟨w.heap.size,0,none⟩ (.int .u32 y0)) B v3):=A3.setNew _ _ _ (Nat.le_refl _);clear T3 R3 A3 T3' R3';go_wp2_with fail;rw [rounds_succ];go_wp2_with fail;have RR:=((HR3.o.set0 (.int .u32 y0)).set1 (.int .u32 y1)).set2 (.int .u32 y2);have AA:=((HA3.o.setNew (w.heap.size+1) 0 (.int .u32 y0) (by omega)).setNew (w.heap.size+1) 1 (.int .u32 y1) (by omega)).setNew (w.heap.size+1) 2 (.int .u32 y2) (by omega);refine bodyPost_ret (v:= .agg #[.int .u32 y0,.int .u32 y1,.int .u32 y2]) (by simp [results,Tryz.results133,RR.c0,RR.c1,RR.c2,go_sem]) rfl ⟨rfl,AA⟩
end words
end Go.Proofs.YtnpblpbohcegoaaGreatDoor
