import Derived.Test.YtdpfnedfakgolaaGreatDoorVVRnt21
import Derived.Test.YtdpfnedfakgolaaGreatDoorVVRnt26
import Derived.Test.YtdpfnedfakgolaaGreatDoorVVRnt36
set_option linter.unusedVariables false
set_option linter.unusedSimpArgs false
set_option maxHeartbeats 4000000
set_option maxRecDepth 100000
namespace Go.Proofs.YtdpfnedfakgolaaGreatDoor
namespace acc
open tar (Du du0 Came RowD Ld PairT)
open Go.RowKit
theorem psell1 (B0 B1 B2 g:Nat) (x:Ac) (p:Option Addr) (len cap:Nat) (t:Tm) (pt:Option Addr) (lt ct:Nat) (te m:Int) (w:World) (hB0:Blk w B0 #[.slice pt lt ct,zI t.ff,zI t.fb,zI t.db,zI t.al] 30) (hB1:Blk w B1 #[zI te] 3) (hB2:Blk w B2 #[zI m] 3) (hw:Blk w g (wcs x bi0 p len cap) 233) (hd:deb.Fresh w (g+1) p len cap x.ds) (ha:AMay x) (ht:Came w pt lt ct t.ts) (hwf:wf4 t) (hfar:Far pt lt g):Calls Tryz.prog 87 #[.pointer (some ⟨g,0,none⟩),.pointer (some ⟨B0,0,none⟩),.pointer (some ⟨B1,0,none⟩),.pointer (some ⟨B2,0,none⟩)] w fun e w'=>WPost w g (Or0 (SellIs x t te m)) e w':=by
 have HIN:Hid (Calls Tryz.prog 88 #[.pointer (some ⟨g,0,none⟩),.agg #[.slice pt lt ct,zI t.ff,zI t.fb,zI t.db,zI t.al],zI te,zI m] w fun e w'=>WPost w g (Or0 (SellIs x t te m)) e w'):=(psell g x p len cap t pt lt ct te m w hw hd ha ht hwf hfar).mono fun e w' h=>h.w (Nat.le_of_lt hw.lt);have HK0:Hid (Blk w B0 #[.slice pt lt ct,zI t.ff,zI t.fb,zI t.db,zI t.al] 30):=hB0;have HK1:Hid (Blk w B1 #[zI te] 3):=hB1;have qB1:w.cell? ⟨B1,0,none⟩=some (zI te):=hB1.cell 0;have HK2:Hid (Blk w B2 #[zI m] 3):=hB2;have qB2:w.cell? ⟨B2,0,none⟩=some (zI m):=hB2.cell 0;clear hw ha hd ht hwf hfar;go_enter Tryz.func87,Tryz.ntmps87;go_wp2_with (first | (refine zqw rfl rfl rfl HK0 zqu30 ?_) | fail)
 refine HIN.o.mono ?_;rintro e w1 hx;have HX:Hid (WPost w g (Or0 (SellIs x t te m)) e w1):=hx;obtain ⟨y,b,q,n,c,f,rfl,_⟩:=hx;clear HIN;go_wp2_with fail;go_ret;exact HX.o
theorem ksell:KcSell:=by
 intro w x p len cap t pt lt ct te m ha ht hte hm;unfold Ac.v Ac.cs Tm.v;have H0d:Hid (Blk ((((((w.alloc (.cells #[zI x.me,zI x.rv,zI x.nx,zI x.mo,zI x.bo,zI x.fr,.slice p len cap] 61)).alloc (.cells #[.slice pt lt ct,zI t.ff,zI t.fb,zI t.db,zI t.al] 30)).alloc (.cells #[zI te] 3)).alloc (.cells #[zI m] 3)).alloc (.cells #[zI 0,zI 0,zI 0,zI 0,zI 0,zI 0,zS] 61)).alloc (.cells #[zI 0,zI 0,zI 0,zI 0,zI 0,zI 0,zI 0] 48)) (w.heap.size) #[zI x.me,zI x.rv,zI x.nx,zI x.mo,zI x.bo,zI x.fr,.slice p len cap] 61):=(((((Blk.new w _ _).alloc _).alloc _).alloc _).alloc _).alloc _;have H0t:Hid (Blk ((((((w.alloc (.cells #[zI x.me,zI x.rv,zI x.nx,zI x.mo,zI x.bo,zI x.fr,.slice p len cap] 61)).alloc (.cells #[.slice pt lt ct,zI t.ff,zI t.fb,zI t.db,zI t.al] 30)).alloc (.cells #[zI te] 3)).alloc (.cells #[zI m] 3)).alloc (.cells #[zI 0,zI 0,zI 0,zI 0,zI 0,zI 0,zS] 61)).alloc (.cells #[zI 0,zI 0,zI 0,zI 0,zI 0,zI 0,zI 0] 48)) (w.heap.size+1) #[.slice pt lt ct,zI t.ff,zI t.fb,zI t.db,zI t.al] 30):=((((Blk.new1 w _ _ _).alloc _).alloc _).alloc _).alloc _;have H0e:Hid (Blk ((((((w.alloc (.cells #[zI x.me,zI x.rv,zI x.nx,zI x.mo,zI x.bo,zI x.fr,.slice p len cap] 61)).alloc (.cells #[.slice pt lt ct,zI t.ff,zI t.fb,zI t.db,zI t.al] 30)).alloc (.cells #[zI te] 3)).alloc (.cells #[zI m] 3)).alloc (.cells #[zI 0,zI 0,zI 0,zI 0,zI 0,zI 0,zS] 61)).alloc (.cells #[zI 0,zI 0,zI 0,zI 0,zI 0,zI 0,zI 0] 48)) (w.heap.size+1+1) #[zI te] 3):=(((Blk.new2 w _ _ _ _).alloc _).alloc _).alloc _;have H0m:Hid (Blk ((((((w.alloc (.cells #[zI x.me,zI x.rv,zI x.nx,zI x.mo,zI x.bo,zI x.fr,.slice p len cap] 61)).alloc (.cells #[.slice pt lt ct,zI t.ff,zI t.fb,zI t.db,zI t.al] 30)).alloc (.cells #[zI te] 3)).alloc (.cells #[zI m] 3)).alloc (.cells #[zI 0,zI 0,zI 0,zI 0,zI 0,zI 0,zS] 61)).alloc (.cells #[zI 0,zI 0,zI 0,zI 0,zI 0,zI 0,zI 0] 48)) (w.heap.size+1+1+1) #[zI m] 3):=((Blk.new3 w _ _ _ _ _).alloc _).alloc _
 have H0r:Hid (Blk ((((((w.alloc (.cells #[zI x.me,zI x.rv,zI x.nx,zI x.mo,zI x.bo,zI x.fr,.slice p len cap] 61)).alloc (.cells #[.slice pt lt ct,zI t.ff,zI t.fb,zI t.db,zI t.al] 30)).alloc (.cells #[zI te] 3)).alloc (.cells #[zI m] 3)).alloc (.cells #[zI 0,zI 0,zI 0,zI 0,zI 0,zI 0,zS] 61)).alloc (.cells #[zI 0,zI 0,zI 0,zI 0,zI 0,zI 0,zI 0] 48)) (w.heap.size+1+1+1+1) #[zI 0,zI 0,zI 0,zI 0,zI 0,zI 0,zS] 61):=(blk_new4 w _ _ _ _ _ _).alloc _;have H0l:Hid (Blk ((((((w.alloc (.cells #[zI x.me,zI x.rv,zI x.nx,zI x.mo,zI x.bo,zI x.fr,.slice p len cap] 61)).alloc (.cells #[.slice pt lt ct,zI t.ff,zI t.fb,zI t.db,zI t.al] 30)).alloc (.cells #[zI te] 3)).alloc (.cells #[zI m] 3)).alloc (.cells #[zI 0,zI 0,zI 0,zI 0,zI 0,zI 0,zS] 61)).alloc (.cells #[zI 0,zI 0,zI 0,zI 0,zI 0,zI 0,zI 0] 48)) (w.heap.size+1+1+1+1+1) #[zI 0,zI 0,zI 0,zI 0,zI 0,zI 0,zI 0] 48):=blk_new5 w _ _ _ _ _ _ _;have H0B:Hid (Below w.heap.size w ((((((w.alloc (.cells #[zI x.me,zI x.rv,zI x.nx,zI x.mo,zI x.bo,zI x.fr,.slice p len cap] 61)).alloc (.cells #[.slice pt lt ct,zI t.ff,zI t.fb,zI t.db,zI t.al] 30)).alloc (.cells #[zI te] 3)).alloc (.cells #[zI m] 3)).alloc (.cells #[zI 0,zI 0,zI 0,zI 0,zI 0,zI 0,zS] 61)).alloc (.cells #[zI 0,zI 0,zI 0,zI 0,zI 0,zI 0,zI 0] 48))):=((((((Below.refl w.heap.size w).alloc (by simp) _).alloc (by simp) _).alloc (by simp;omega) _).alloc (by simp;omega) _).alloc (by simp;omega) _).alloc (by simp;omega) _;have H0R:Hid (Came ((((((w.alloc (.cells #[zI x.me,zI x.rv,zI x.nx,zI x.mo,zI x.bo,zI x.fr,.slice p len cap] 61)).alloc (.cells #[.slice pt lt ct,zI t.ff,zI t.fb,zI t.db,zI t.al] 30)).alloc (.cells #[zI te] 3)).alloc (.cells #[zI m] 3)).alloc (.cells #[zI 0,zI 0,zI 0,zI 0,zI 0,zI 0,zS] 61)).alloc (.cells #[zI 0,zI 0,zI 0,zI 0,zI 0,zI 0,zI 0] 48)) p len cap x.ds):=ha.ds.below H0B.o;have hs0:w.heap.size+1+1+1+1+1<((((((w.alloc (.cells #[zI x.me,zI x.rv,zI x.nx,zI x.mo,zI x.bo,zI x.fr,.slice p len cap] 61)).alloc (.cells #[.slice pt lt ct,zI t.ff,zI t.fb,zI t.db,zI t.al] 30)).alloc (.cells #[zI te] 3)).alloc (.cells #[zI m] 3)).alloc (.cells #[zI 0,zI 0,zI 0,zI 0,zI 0,zI 0,zS] 61)).alloc (.cells #[zI 0,zI 0,zI 0,zI 0,zI 0,zI 0,zI 0] 48)).heap.size:=H0l.o.lt
 generalize hWW:((((((w.alloc (.cells #[zI x.me,zI x.rv,zI x.nx,zI x.mo,zI x.bo,zI x.fr,.slice p len cap] 61)).alloc (.cells #[.slice pt lt ct,zI t.ff,zI t.fb,zI t.db,zI t.al] 30)).alloc (.cells #[zI te] 3)).alloc (.cells #[zI m] 3)).alloc (.cells #[zI 0,zI 0,zI 0,zI 0,zI 0,zI 0,zS] 61)).alloc (.cells #[zI 0,zI 0,zI 0,zI 0,zI 0,zI 0,zI 0] 48))=W0 at *;have HWW:Hid (((((((w.alloc (.cells #[zI x.me,zI x.rv,zI x.nx,zI x.mo,zI x.bo,zI x.fr,.slice p len cap] 61)).alloc (.cells #[.slice pt lt ct,zI t.ff,zI t.fb,zI t.db,zI t.al] 30)).alloc (.cells #[zI te] 3)).alloc (.cells #[zI m] 3)).alloc (.cells #[zI 0,zI 0,zI 0,zI 0,zI 0,zI 0,zS] 61)).alloc (.cells #[zI 0,zI 0,zI 0,zI 0,zI 0,zI 0,zI 0] 48))=W0):=hWW;clear hWW;go_enter Tryz.func52,Tryz.ntmps52;go_upto_region 1 with fail
 rw [HWW.o];clear HWW;have HXt:Hid (∀ W,Below W0.heap.size W0 W→Blk W (w.heap.size+1) #[.slice pt lt ct,zI t.ff,zI t.fb,zI t.db,zI t.al] 30):=fun W hW=>H0t.o.next hW;have HXe:Hid (∀ W,Below W0.heap.size W0 W→Blk W (w.heap.size+1+1) #[zI te] 3):=fun W hW=>H0e.o.next hW;have HXm:Hid (∀ W,Below W0.heap.size W0 W→Blk W (w.heap.size+1+1+1) #[zI m] 3):=fun W hW=>H0m.o.next hW;have HTC:Hid (Came w pt lt ct t.ts):=ht.ts;have HBW:Hid (Below w.heap.size w W0):=H0B.o;have hbw:w.heap.size≤W0.heap.size:=H0B.o.size
 have HWK:Hid (Calls Tryz.prog 78 #[.agg #[zI x.me,zI x.rv,zI x.nx,zI x.mo,zI x.bo,zI x.fr,.slice p len cap],.func (.func 87) #[] #[.pointer (some ⟨w.heap.size+1,0,none⟩),.pointer (some ⟨w.heap.size+1+1,0,none⟩),.pointer (some ⟨w.heap.size+1+1+1,0,none⟩)]] W0 fun e w'=>BPost W0 (SellIs x t te m) e w'):=by
  refine pwork 87 #[.pointer (some ⟨w.heap.size+1,0,none⟩),.pointer (some ⟨w.heap.size+1+1,0,none⟩),.pointer (some ⟨w.heap.size+1+1+1,0,none⟩)] (SellIs x t te m) x p len cap W0 H0R.o (fun h=> .inl ⟨.inl ⟨h,rfl⟩,rfl,rfl⟩) (fun _ _=>by kernel_rfl) ?_;intro hm W g p' cap' hB hg hblk hld
  have HFR:deb.Fresh W (g+1) p' len cap' x.ds:=by
   obtain ⟨a0,c0,hv,hfr⟩:=deb.ld_fresh hld hm.1;injection hv with h1 h2 h3
   rw [h1,h2,h3];exact hfr
  have hfar:Far pt lt g:=fun hn y hy=>by have:=came_lt HTC.o hn y hy;omega
  exact psell1 _ _ _ g x p' len cap' t pt lt ct te m W (HXt.o W hB) (HXe.o W hB) (HXm.o W hB) hblk HFR hm (HTC.o.below (HBW.o.trans (hB.mono hbw))) ht.wf hfar
 clear ha ht HXt HXe HXm
 go_wp2_with (first
  | (refine zqw rfl rfl rfl H0d zqu61 ?_)
  | (refine zqw rfl rfl rfl H0t zqu30 ?_)
  | (refine wp_whole rfl 3 _ rfl _ rfl 3 _ _ H0e.o Tryz.underlying3 rfl (by kernel_rfl) ?_)
  | (refine wp_whole rfl 3 _ rfl _ rfl 3 _ _ H0m.o Tryz.underlying3 rfl (by kernel_rfl) ?_)
  | (refine zqw rfl rfl rfl H0r zqu61 ?_)
  | (refine zqw rfl rfl rfl H0l zqu48 ?_)
  | fail)
 refine HWK.o.mono ?_;rintro e w1 ⟨b,l,pr,lr,cr,fz,rfl,hi,hf,hb1⟩;have H1d:=shN H0d hb1;have H1t:=shN H0t hb1;have H1e:=shN H0e hb1;have H1m:=shN H0m hb1;have H1r:=shN H0r hb1;have H1l:=shN H0l hb1;have H1R:Hid (Came w1 p len cap x.ds):=H0R.o.below hb1;have H1B:=shB H0B hb1;have hsw1:W0.heap.size≤w1.heap.size:=hb1.size;clear hb1 H0d H0t H0e H0m H0r H0l H0R H0B;unfold Ac.v Ac.cs Bi.v;clear HWK;have H2F:Hid (deb.Fresh w1 W0.heap.size pr lr cr b.ds):=hf;have HUPF:Hid (0<lr→∀ y,pr=some y→y.block<w1.heap.size):=came_lt H2F.o.came;have HV:Hid (SellIs x t te m b l fz):=hi;clear hf hi
 go_wp2_with (first
  | (refine zql rfl rfl rfl rfl zqu61 (by simp [Value.oneCell']) H1r rfl ?_)
  | (refine zqw rfl rfl rfl H1d zqu61 ?_)
  | (refine zqw rfl rfl rfl H1t zqu30 ?_)
  | (refine wp_whole rfl 3 _ rfl _ rfl 3 _ _ H1e.o Tryz.underlying3 rfl (by kernel_rfl) ?_)
  | (refine wp_whole rfl 3 _ rfl _ rfl 3 _ _ H1m.o Tryz.underlying3 rfl (by kernel_rfl) ?_)
  | (refine zqw rfl rfl rfl H1r zqu61 ?_)
  | (refine zqw rfl rfl rfl H1l zqu48 ?_)
  | fail)
 intro W4 hU;have H3d:=shK hU H1d (by omega);have H3t:=shK hU H1t (by omega);have H3e:=shK hU H1e (by omega);have H3m:=shK hU H1m (by omega);have H3r:Hid (Blk W4 (w.heap.size+1+1+1+1) #[zI b.me,zI b.rv,zI b.nx,zI b.mo,zI b.bo,zI b.fr,.slice pr lr cr] 61):=hU.blk;have H3l:=shK hU H1l (by omega);have H3F:Hid (deb.Fresh W4 W0.heap.size pr lr cr b.ds):=fresh_updN H2F.o hU (fun hn y hy=>by have f1:=H2F.o.new hn y hy;have f2:=HUPF.o hn y hy;omega);have H3B:=shV hU H1B (by omega);have hsW4:W4.heap.size=w1.heap.size:=hU.size;clear hU H1d H1t H1e H1m H1r H1l H2F H1B
 go_wp2_with (first
  | (refine zql rfl rfl rfl rfl zqu48 (by simp [Value.oneCell']) H3l rfl ?_)
  | (refine zqw rfl rfl rfl H3d zqu61 ?_)
  | (refine zqw rfl rfl rfl H3t zqu30 ?_)
  | (refine wp_whole rfl 3 _ rfl _ rfl 3 _ _ H3e.o Tryz.underlying3 rfl (by kernel_rfl) ?_)
  | (refine wp_whole rfl 3 _ rfl _ rfl 3 _ _ H3m.o Tryz.underlying3 rfl (by kernel_rfl) ?_)
  | (refine zqw rfl rfl rfl H3r zqu61 ?_)
  | (refine zqw rfl rfl rfl H3l zqu48 ?_)
  | fail)
 intro W5 hU;have H4d:=shK hU H3d (by omega);have H4t:=shK hU H3t (by omega);have H4e:=shK hU H3e (by omega);have H4m:=shK hU H3m (by omega);have H4r:=shK hU H3r (by omega);have H4l:Hid (Blk W5 (w.heap.size+1+1+1+1+1) #[zI l.id,zI l.te,zI l.de,zI l.fe,zI l.pr,zI l.ch,zI l.un] 48):=hU.blk;have H4F:Hid (deb.Fresh W5 W0.heap.size pr lr cr b.ds):=fresh_updN H3F.o hU (fun hn y hy=>by have f1:=H3F.o.new hn y hy;have f2:=HUPF.o hn y hy;omega);have H4B:=shV hU H3B (by omega);have hsW5:W5.heap.size=W4.heap.size:=hU.size;clear hU H3d H3t H3e H3m H3r H3l H3F H3B;obtain ⟨Rr0,Rr1,Rr2,Rr3,Rr4,Rr5,Rr6⟩:=shc7 H4r;obtain ⟨Rl0,Rl1,Rl2,Rl3,Rl4,Rl5,Rl6⟩:=shc7 H4l;go_wp2_with fail;exact bodyPost_ret (v:= .tuple #[.agg #[zI b.me,zI b.rv,zI b.nx,zI b.mo,zI b.bo,zI b.fr,.slice pr lr cr],.agg #[zI l.id,zI l.te,zI l.de,zI l.fe,zI l.pr,zI l.ch,zI l.un],zI fz]) (by simp [results,Tryz.results52,Rr0.o,Rr1.o,Rr2.o,Rr3.o,Rr4.o,Rr5.o,Rr6.o,Rl0.o,Rl1.o,Rl2.o,Rl3.o,Rl4.o,Rl5.o,Rl6.o,go_sem]) rfl ⟨b,l,pr,lr,cr,fz,rfl,HV.o,H4F.o.low (by omega),H4B.o⟩
theorem pgrant1 (B0 B1 g:Nat) (x:Ac) (p:Option Addr) (len cap:Nat) (t:Tm) (pt:Option Addr) (lt ct:Nat) (m:Int) (w:World) (hB0:Blk w B0 #[.slice pt lt ct,zI t.ff,zI t.fb,zI t.db,zI t.al] 30) (hB1:Blk w B1 #[zI m] 3) (hw:Blk w g (wcs x bi0 p len cap) 233) (hd:deb.Fresh w (g+1) p len cap x.ds) (ha:AMay x) (ht:Came w pt lt ct t.ts) (hwf:wf4 t) (hfar:Far pt lt g):Calls Tryz.prog 81 #[.pointer (some ⟨g,0,none⟩),.pointer (some ⟨B0,0,none⟩),.pointer (some ⟨B1,0,none⟩)] w fun e w'=>WPost w g (Or0 (GrantIs x t m)) e w':=by
 have HIN:Hid (Calls Tryz.prog 82 #[.pointer (some ⟨g,0,none⟩),.agg #[.slice pt lt ct,zI t.ff,zI t.fb,zI t.db,zI t.al],zI m] w fun e w'=>WPost w g (Or0 (GrantIs x t m)) e w'):=(pgrant g x p len cap t pt lt ct m w hw hd ha ht hwf hfar).mono fun e w' h=>h.w (Nat.le_of_lt hw.lt);have HK0:Hid (Blk w B0 #[.slice pt lt ct,zI t.ff,zI t.fb,zI t.db,zI t.al] 30):=hB0;have HK1:Hid (Blk w B1 #[zI m] 3):=hB1;have qB1:w.cell? ⟨B1,0,none⟩=some (zI m):=hB1.cell 0;clear hw ha hd ht hwf hfar;go_enter Tryz.func81,Tryz.ntmps81;go_wp2_with (first | (refine zqw rfl rfl rfl HK0 zqu30 ?_) | fail)
 refine HIN.o.mono ?_;rintro e w1 hx;have HX:Hid (WPost w g (Or0 (GrantIs x t m)) e w1):=hx;obtain ⟨y,b,q,n,c,f,rfl,_⟩:=hx;clear HIN;go_wp2_with fail;go_ret;exact HX.o
theorem kgrant:KcGrant:=by
 intro w x p len cap t pt lt ct m ha ht hm;unfold Ac.v Ac.cs Tm.v;obtain ⟨W0,HWW,H0d,H0t,H0m,H0r,H0l,H0B,hs0⟩:=sh5 w #[zI x.me,zI x.rv,zI x.nx,zI x.mo,zI x.bo,zI x.fr,.slice p len cap] 61 #[.slice pt lt ct,zI t.ff,zI t.fb,zI t.db,zI t.al] 30 #[zI m] 3 #[zI 0,zI 0,zI 0,zI 0,zI 0,zI 0,zS] 61 #[zI 0,zI 0,zI 0,zI 0,zI 0,zI 0,zI 0] 48;have H0R:Hid (Came W0 p len cap x.ds):=ha.ds.below H0B.o;go_enter Tryz.func48,Tryz.ntmps48;go_upto_region 1 with fail
 rw [HWW.o];clear HWW;have HXt:Hid (∀ W,Below W0.heap.size W0 W→Blk W (w.heap.size+1) #[.slice pt lt ct,zI t.ff,zI t.fb,zI t.db,zI t.al] 30):=fun W hW=>H0t.o.next hW;have HXm:Hid (∀ W,Below W0.heap.size W0 W→Blk W (w.heap.size+1+1) #[zI m] 3):=fun W hW=>H0m.o.next hW;have HTC:Hid (Came w pt lt ct t.ts):=ht.ts;have HBW:Hid (Below w.heap.size w W0):=H0B.o;have hbw:w.heap.size≤W0.heap.size:=H0B.o.size
 have HWK:Hid (Calls Tryz.prog 78 #[.agg #[zI x.me,zI x.rv,zI x.nx,zI x.mo,zI x.bo,zI x.fr,.slice p len cap],.func (.func 81) #[] #[.pointer (some ⟨w.heap.size+1,0,none⟩),.pointer (some ⟨w.heap.size+1+1,0,none⟩)]] W0 fun e w'=>BPost W0 (GrantIs x t m) e w'):=by
  refine pwork 81 #[.pointer (some ⟨w.heap.size+1,0,none⟩),.pointer (some ⟨w.heap.size+1+1,0,none⟩)] (GrantIs x t m) x p len cap W0 H0R.o (fun h=> .inl ⟨.inl ⟨h,rfl⟩,rfl,rfl⟩) (fun _ _=>by kernel_rfl) ?_;intro hm W g p' cap' hB hg hblk hld
  have HFR:deb.Fresh W (g+1) p' len cap' x.ds:=by
   obtain ⟨a0,c0,hv,hfr⟩:=deb.ld_fresh hld hm.1;injection hv with h1 h2 h3
   rw [h1,h2,h3];exact hfr
  have hfar:Far pt lt g:=fun hn y hy=>by have:=came_lt HTC.o hn y hy;omega
  exact pgrant1 _ _ g x p' len cap' t pt lt ct m W (HXt.o W hB) (HXm.o W hB) hblk HFR hm (HTC.o.below (HBW.o.trans (hB.mono hbw))) ht.wf hfar
 clear ha ht HXt HXm
 go_wp2_with (first
  | (refine zqw rfl rfl rfl H0d zqu61 ?_)
  | (refine zqw rfl rfl rfl H0t zqu30 ?_)
  | (refine wp_whole rfl 3 _ rfl _ rfl 3 _ _ H0m.o Tryz.underlying3 rfl (by kernel_rfl) ?_)
  | (refine zqw rfl rfl rfl H0r zqu61 ?_)
  | (refine zqw rfl rfl rfl H0l zqu48 ?_)
  | fail)
 refine HWK.o.mono ?_;rintro e w1 ⟨b,l,pr,lr,cr,fz,rfl,hi,hf,hb1⟩;have H1d:=shN H0d hb1;have H1t:=shN H0t hb1;have H1m:=shN H0m hb1;have H1r:=shN H0r hb1;have H1l:=shN H0l hb1;have H1R:Hid (Came w1 p len cap x.ds):=H0R.o.below hb1;have H1B:=shB H0B hb1;have hsw1:W0.heap.size≤w1.heap.size:=hb1.size;clear hb1 H0d H0t H0m H0r H0l H0R H0B;unfold Ac.v Ac.cs Bi.v;clear HWK;have H2F:Hid (deb.Fresh w1 W0.heap.size pr lr cr b.ds):=hf;have HUPF:Hid (0<lr→∀ y,pr=some y→y.block<w1.heap.size):=came_lt H2F.o.came;have HV:Hid (GrantIs x t m b l fz):=hi;clear hf hi
 go_wp2_with (first
  | (refine zql rfl rfl rfl rfl zqu61 (by simp [Value.oneCell']) H1r rfl ?_)
  | (refine zqw rfl rfl rfl H1d zqu61 ?_)
  | (refine zqw rfl rfl rfl H1t zqu30 ?_)
  | (refine wp_whole rfl 3 _ rfl _ rfl 3 _ _ H1m.o Tryz.underlying3 rfl (by kernel_rfl) ?_)
  | (refine zqw rfl rfl rfl H1r zqu61 ?_)
  | (refine zqw rfl rfl rfl H1l zqu48 ?_)
  | fail)
 intro W4 hU;have H3d:=shK hU H1d (by omega);have H3t:=shK hU H1t (by omega);have H3m:=shK hU H1m (by omega);have H3r:Hid (Blk W4 (w.heap.size+1+1+1) #[zI b.me,zI b.rv,zI b.nx,zI b.mo,zI b.bo,zI b.fr,.slice pr lr cr] 61):=hU.blk;have H3l:=shK hU H1l (by omega);have H3F:Hid (deb.Fresh W4 W0.heap.size pr lr cr b.ds):=fresh_updN H2F.o hU (fun hn y hy=>by have f1:=H2F.o.new hn y hy;have f2:=HUPF.o hn y hy;omega);have H3B:=shV hU H1B (by omega);have hsW4:W4.heap.size=w1.heap.size:=hU.size;clear hU H1d H1t H1m H1r H1l H2F H1B
 go_wp2_with (first
  | (refine zql rfl rfl rfl rfl zqu48 (by simp [Value.oneCell']) H3l rfl ?_)
  | (refine zqw rfl rfl rfl H3d zqu61 ?_)
  | (refine zqw rfl rfl rfl H3t zqu30 ?_)
  | (refine wp_whole rfl 3 _ rfl _ rfl 3 _ _ H3m.o Tryz.underlying3 rfl (by kernel_rfl) ?_)
  | (refine zqw rfl rfl rfl H3r zqu61 ?_)
  | (refine zqw rfl rfl rfl H3l zqu48 ?_)
  | fail)
 intro W5 hU;have H4d:=shK hU H3d (by omega);have H4t:=shK hU H3t (by omega);have H4m:=shK hU H3m (by omega);have H4r:=shK hU H3r (by omega);have H4l:Hid (Blk W5 (w.heap.size+1+1+1+1) #[zI l.id,zI l.te,zI l.de,zI l.fe,zI l.pr,zI l.ch,zI l.un] 48):=hU.blk;have H4F:Hid (deb.Fresh W5 W0.heap.size pr lr cr b.ds):=fresh_updN H3F.o hU (fun hn y hy=>by have f1:=H3F.o.new hn y hy;have f2:=HUPF.o hn y hy;omega);have H4B:=shV hU H3B (by omega);have hsW5:W5.heap.size=W4.heap.size:=hU.size;clear hU H3d H3t H3m H3r H3l H3F H3B;obtain ⟨Rr0,Rr1,Rr2,Rr3,Rr4,Rr5,Rr6⟩:=shc7 H4r;obtain ⟨Rl0,Rl1,Rl2,Rl3,Rl4,Rl5,Rl6⟩:=shc7 H4l;go_wp2_with fail;exact bodyPost_ret (v:= .tuple #[.agg #[zI b.me,zI b.rv,zI b.nx,zI b.mo,zI b.bo,zI b.fr,.slice pr lr cr],.agg #[zI l.id,zI l.te,zI l.de,zI l.fe,zI l.pr,zI l.ch,zI l.un],zI fz]) (by simp [results,Tryz.results48,Rr0.o,Rr1.o,Rr2.o,Rr3.o,Rr4.o,Rr5.o,Rr6.o,Rl0.o,Rl1.o,Rl2.o,Rl3.o,Rl4.o,Rl5.o,Rl6.o,go_sem]) rfl ⟨b,l,pr,lr,cr,fz,rfl,HV.o,H4F.o.low (by omega),H4B.o⟩
theorem prekey (g:Nat) (x:Ac) (p:Option Addr) (len cap:Nat) (w:World) (hw:Blk w g (wcs x bi0 p len cap) 233) (hd:deb.Fresh w (g+1) p len cap x.ds) (ha:AMay x):Calls Tryz.prog 86 #[.pointer (some ⟨g,0,none⟩)] w fun e w'=>DPost w g (Or0 (RekeyIs x)) e w':=by
 have hrv:=ha.2.2.1;have hnx:=ha.2.2.2.1;have HM:Hid (AMay x):=ha;have HI:Hid (Blk w g #[zI x.me,zI x.rv,zI x.nx,zI x.mo,zI x.bo,zI x.fr,.slice p len cap,zI 0,zI 0,zI 0,zI 0,zI 0,zI 0,zI 0] 233):=hw;have HD:Hid (deb.Fresh w (g+1) p len cap x.ds):=hd;have q1:w.cell? ⟨g,1,none⟩=some (zI x.rv):=HI.o.cell 1;clear hw hd ha;by_cases h1:x.rv<15
 ·have d1:(x.rv == 15)=false:=by simp;omega
  have hwr:IntKind.i64.wrap (x.rv+1)=x.rv+1:=by rw [IntKind.wrap_i64];omega
  have H1:Hid (x.rv<15):=h1;go_enter Tryz.func86,Tryz.ntmps86;go_wp2_with (first | (refine wp_let1 rfl 3 _ _ rfl g 1 rfl .i64 (x.rv+1) rfl (by kernel_rfl) #[zI x.me,zI x.rv,zI x.nx,zI x.mo,zI x.bo,zI x.fr,.slice p len cap,zI 0,zI 0,zI 0,zI 0,zI 0,zI 0,zI 0] 233 HI.o (by simp) ?_) | fail)
  intro W1 hU;have HI1:Hid (Blk W1 g #[zI x.me,zI (x.rv+1),zI x.nx,zI x.mo,zI x.bo,zI x.fr,.slice p len cap,zI 0,zI 0,zI 0,zI 0,zI 0,zI 0,zI 0] 233):=hU.blk;have HC1:Hid (Chg w W1 g):= .upd hU;have HD1:Hid (deb.Fresh W1 (g+1) p len cap x.ds):=fresh_chg HD.o (.upd hU);have HNU:Hid (Calls Tryz.prog 121 #[.pointer (some ⟨g,0,none⟩)] W1 fun e w'=>NumPost W1 g ⟨x.me,x.rv+1,x.nx,x.mo,x.bo,x.fr,x.ds⟩ bi0 p len cap e w'):=pnum g ⟨x.me,x.rv+1,x.nx,x.mo,x.bo,x.fr,x.ds⟩ bi0 p len cap W1 HI1.o hnx;clear hU q1 HI HD d1 h1;go_wp2_with fail;refine HNU.o.mono ?_;rintro e wN ⟨hcN,⟨hx,rfl,hiN⟩ | ⟨hx,rfl,hiN⟩⟩
  ·have HV:Hid (Or0 (RekeyIs x) ⟨x.me,x.rv+1,x.nx,x.mo,x.bo,x.fr,x.ds⟩ bi0 20):= .inl ⟨by decide,.inr (.inr (.inl ⟨HM.o,H1.o,hx,rfl,rfl,rfl⟩))⟩;have HDN:=fresh_chg HD1.o hcN;have HCN:=HC1.o.trans hcN;clear HNU hx;go_wp2_with fail;go_ret;exact ⟨⟨x.me,x.rv+1,x.nx,x.mo,x.bo,x.fr,x.ds⟩,bi0,p,len,cap,20,rfl,HV.o,hiN,HDN,HCN⟩
  ·have HV:Hid (Or0 (RekeyIs x) ⟨x.me,x.rv+1,x.nx+1,x.mo,x.bo,x.fr,x.ds⟩ ⟨x.nx,0,0,0,0,0,0⟩ 0):= .inr ⟨rfl,.inr (.inr (.inr ⟨HM.o,H1.o,hx,rfl,rfl,rfl⟩))⟩;have HDN:=fresh_chg HD1.o hcN;have HCN:=HC1.o.trans hcN;clear HNU hx;go_wp2_with fail;go_ret;exact ⟨⟨x.me,x.rv+1,x.nx+1,x.mo,x.bo,x.fr,x.ds⟩,⟨x.nx,0,0,0,0,0,0⟩,p,len,cap,0,rfl,HV.o,hiN,HDN,HCN⟩
 ·have d1:(x.rv == 15)=true:=by simp;omega
  have HV:Hid (Or0 (RekeyIs x) x bi0 24):= .inl ⟨by decide,.inr (.inl ⟨HM.o,h1,rfl,rfl,rfl⟩)⟩;clear h1 hrv hnx;go_enter Tryz.func86,Tryz.ntmps86;go_wp2_with fail;go_ret;exact ⟨x,bi0,p,len,cap,24,rfl,HV.o,HI.o,HD.o,Chg.refl _ _⟩
theorem krekey:KcRekey:=by
 intro w x p len cap ha;unfold Ac.v Ac.cs;obtain ⟨W0,HWW,H0d,H0r,H0l,H0B,hs0⟩:=sh3 w #[zI x.me,zI x.rv,zI x.nx,zI x.mo,zI x.bo,zI x.fr,.slice p len cap] 61 #[zI 0,zI 0,zI 0,zI 0,zI 0,zI 0,zS] 61 #[zI 0,zI 0,zI 0,zI 0,zI 0,zI 0,zI 0] 48;have H0R:Hid (Came W0 p len cap x.ds):=ha.ds.below H0B.o;go_enter Tryz.func50,Tryz.ntmps50;go_upto_region 1 with fail
 rw [HWW.o];clear HWW
 have HWK:Hid (Calls Tryz.prog 78 #[.agg #[zI x.me,zI x.rv,zI x.nx,zI x.mo,zI x.bo,zI x.fr,.slice p len cap],.func (.func 86) #[] #[]] W0 fun e w'=>BPost W0 (RekeyIs x) e w'):=by
  refine pwork 86 #[] (RekeyIs x) x p len cap W0 H0R.o (fun h=> .inl ⟨h,rfl,rfl,rfl⟩) (fun _ _=>by kernel_rfl) ?_;intro hm W g p' cap' hB hg hblk hld
  have HFR:deb.Fresh W (g+1) p' len cap' x.ds:=by
   obtain ⟨a0,c0,hv,hfr⟩:=deb.ld_fresh hld hm.1;injection hv with h1 h2 h3
   rw [h1,h2,h3];exact hfr
  exact (prekey g x p' len cap' W hblk HFR hm).mono fun e w' h=>h.w (Nat.le_of_lt hblk.lt)
 clear ha
 go_wp2_with (first
  | (refine zqw rfl rfl rfl H0d zqu61 ?_)
  | (refine zqw rfl rfl rfl H0r zqu61 ?_)
  | (refine zqw rfl rfl rfl H0l zqu48 ?_)
  | fail)
 refine HWK.o.mono ?_;rintro e w1 ⟨b,l,pr,lr,cr,fz,rfl,hi,hf,hb1⟩;have H1d:=shN H0d hb1;have H1r:=shN H0r hb1;have H1l:=shN H0l hb1;have H1R:Hid (Came w1 p len cap x.ds):=H0R.o.below hb1;have H1B:=shB H0B hb1;have hsw1:W0.heap.size≤w1.heap.size:=hb1.size;clear hb1 H0d H0r H0l H0R H0B;unfold Ac.v Ac.cs Bi.v;clear HWK;have H2F:Hid (deb.Fresh w1 W0.heap.size pr lr cr b.ds):=hf;have HUPF:Hid (0<lr→∀ y,pr=some y→y.block<w1.heap.size):=came_lt H2F.o.came;have HV:Hid (RekeyIs x b l fz):=hi;clear hf hi
 go_wp2_with (first
  | (refine zql rfl rfl rfl rfl zqu61 (by simp [Value.oneCell']) H1r rfl ?_)
  | (refine zqw rfl rfl rfl H1d zqu61 ?_)
  | (refine zqw rfl rfl rfl H1r zqu61 ?_)
  | (refine zqw rfl rfl rfl H1l zqu48 ?_)
  | fail)
 intro W4 hU;have H3d:=shK hU H1d (by omega);have H3r:Hid (Blk W4 (w.heap.size+1) #[zI b.me,zI b.rv,zI b.nx,zI b.mo,zI b.bo,zI b.fr,.slice pr lr cr] 61):=hU.blk;have H3l:=shK hU H1l (by omega);have H3F:Hid (deb.Fresh W4 W0.heap.size pr lr cr b.ds):=fresh_updN H2F.o hU (fun hn y hy=>by have f1:=H2F.o.new hn y hy;have f2:=HUPF.o hn y hy;omega);have H3B:=shV hU H1B (by omega);have hsW4:W4.heap.size=w1.heap.size:=hU.size;clear hU H1d H1r H1l H2F H1B
 go_wp2_with (first
  | (refine zql rfl rfl rfl rfl zqu48 (by simp [Value.oneCell']) H3l rfl ?_)
  | (refine zqw rfl rfl rfl H3d zqu61 ?_)
  | (refine zqw rfl rfl rfl H3r zqu61 ?_)
  | (refine zqw rfl rfl rfl H3l zqu48 ?_)
  | fail)
 intro W5 hU;have H4d:=shK hU H3d (by omega);have H4r:=shK hU H3r (by omega);have H4l:Hid (Blk W5 (w.heap.size+1+1) #[zI l.id,zI l.te,zI l.de,zI l.fe,zI l.pr,zI l.ch,zI l.un] 48):=hU.blk;have H4F:Hid (deb.Fresh W5 W0.heap.size pr lr cr b.ds):=fresh_updN H3F.o hU (fun hn y hy=>by have f1:=H3F.o.new hn y hy;have f2:=HUPF.o hn y hy;omega);have H4B:=shV hU H3B (by omega);have hsW5:W5.heap.size=W4.heap.size:=hU.size;clear hU H3d H3r H3l H3F H3B;obtain ⟨Rr0,Rr1,Rr2,Rr3,Rr4,Rr5,Rr6⟩:=shc7 H4r;obtain ⟨Rl0,Rl1,Rl2,Rl3,Rl4,Rl5,Rl6⟩:=shc7 H4l;go_wp2_with fail;exact bodyPost_ret (v:= .tuple #[.agg #[zI b.me,zI b.rv,zI b.nx,zI b.mo,zI b.bo,zI b.fr,.slice pr lr cr],.agg #[zI l.id,zI l.te,zI l.de,zI l.fe,zI l.pr,zI l.ch,zI l.un],zI fz]) (by simp [results,Tryz.results50,Rr0.o,Rr1.o,Rr2.o,Rr3.o,Rr4.o,Rr5.o,Rr6.o,Rl0.o,Rl1.o,Rl2.o,Rl3.o,Rl4.o,Rl5.o,Rl6.o,go_sem]) rfl ⟨b,l,pr,lr,cr,fz,rfl,HV.o,H4F.o.low (by omega),H4B.o⟩
end acc
end Go.Proofs.YtdpfnedfakgolaaGreatDoor
