import Derived.Test.YtnpblpbohcegoaaGreatDoorVVRts18
import Derived.Test.YtnpblpbohcegoaaGreatDoorVVRts31
set_option linter.unusedVariables false
set_option linter.unusedSimpArgs false
set_option maxHeartbeats 4000000
set_option maxRecDepth 100000
namespace Go.Proofs.YtnpblpbohcegoaaGreatDoor
namespace acc
open tar (Du du0 Came RowD Ld PairT)
open Go.RowKit
theorem rgranted (x:Ac) (p:Option Addr) (len cap:Nat) (t:Tm) (pt:Option Addr) (lt ct:Nat) (m:Int) (w:World) (h:RowD w p len x.ds) (hl:len≤maxLen) (ht:RowD w pt lt t.ts) (htl:lt≤maxLen):Calls Tryz.prog 144 #[.agg #[zI x.me,zI x.rv,zI x.nx,zI x.mo,zI x.bo,zI x.fr,.slice p len cap],.agg #[.slice pt lt ct,zI t.ff,zI t.fb,zI t.db,zI t.al],zI m] w fun e w'=>BPost w (GrantIs x t m) e w':=by
 by_cases hm:AMay x
 ·have HM:Hid (AMay x):=hm;have hnx:=hm.2.2.2.1;have hmo:=hm.2.2.2.2.1;obtain ⟨W0,HWW,H0d,H0t,H0r,H0l,H0B,hs0⟩:=sh4 w #[zI x.me,zI x.rv,zI x.nx,zI x.mo,zI x.bo,zI x.fr,.slice p len cap] 51 #[.slice pt lt ct,zI t.ff,zI t.fb,zI t.db,zI t.al] 24 #[zI 0,zI 0,zI 0,zI 0,zI 0,zI 0,zS] 51 #[zI 0,zI 0,zI 0,zI 0,zI 0,zI 0,zI 0] 68;have H0R:Hid (RowD W0 p len x.ds):=h.below H0B.o;have H0T:Hid (RowD W0 pt lt t.ts):=ht.below H0B.o;go_enter Tryz.func144,Tryz.ntmps144;go_upto_region 1 with fail
  rw [HWW.o];clear HWW;have HAM:Hid (Calls Tryz.prog 173 #[.agg #[zI x.me,zI x.rv,zI x.nx,zI x.mo,zI x.bo,zI x.fr,.slice p len cap]] W0 fun e w'=>e = .returned (.bool true)∧Below W0.heap.size W0 w'):=ramay x p len cap _ H0R.o hl hm
  go_wp2_with (first
   | (refine zqw rfl rfl rfl H0d zqu51 ?_)
   | (refine zqw rfl rfl rfl H0t zqu24 ?_)
   | (refine zqw rfl rfl rfl H0r zqu51 ?_)
   | (refine zqw rfl rfl rfl H0l zqu68 ?_)
   | fail)
  refine HAM.o.mono ?_;rintro e w1 ⟨rfl,hb1⟩;have H1d:=shN H0d hb1;have H1t:=shN H0t hb1;have H1r:=shN H0r hb1;have H1l:=shN H0l hb1;have H1R:Hid (RowD w1 p len x.ds):=H0R.o.below hb1;have H1T:Hid (RowD w1 pt lt t.ts):=H0T.o.below hb1;have H1B:=shB H0B hb1;have hsw1:W0.heap.size≤w1.heap.size:=hb1.size;clear hb1 H0d H0t H0r H0l H0R H0T H0B;clear HAM;clear hm;have HTF:Hid (Calls Tryz.prog 97 #[.agg #[.slice pt lt ct,zI t.ff,zI t.fb,zI t.db,zI t.al]] w1 fun e w'=>tar.ErrPost w1 (TFault t) e w'):=rterms t pt lt ct w1 H1T.o htl
  go_wp2_with (first
   | (refine zqw rfl rfl rfl H1d zqu51 ?_)
   | (refine zqw rfl rfl rfl H1t zqu24 ?_)
   | (refine zqw rfl rfl rfl H1r zqu51 ?_)
   | (refine zqw rfl rfl rfl H1l zqu68 ?_)
   | fail)
  refine HTF.o.mono ?_;rintro e w2 ⟨ft,rfl,hft,hb2⟩;have H2d:=shN H1d hb2;have H2t:=shN H1t hb2;have H2r:=shN H1r hb2;have H2l:=shN H1l hb2;have H2R:Hid (RowD w2 p len x.ds):=H1R.o.below hb2;have H2T:Hid (RowD w2 pt lt t.ts):=H1T.o.below hb2;have H2B:=shB H1B hb2;have hsw2:w1.heap.size≤w2.heap.size:=hb2.size;clear hb2 H1d H1t H1r H1l H1R H1T H1B;clear HTF;by_cases h0:ft=0
  ·subst h0;have HT:Hid (TRight t):=hft.ok.1 rfl;clear hft;have HRO:Hid (Calls Tryz.prog 175 #[.agg #[zI x.me,zI x.rv,zI x.nx,zI x.mo,zI x.bo,zI x.fr,.slice p len cap],zI m] w2 fun e w'=>APost w2 (RollIs x m) e w'):=rrolled x p len cap m w2 H2R.o hl
   go_wp2_with (first
    | (refine zqw rfl rfl rfl H2d zqu51 ?_)
    | (refine zqw rfl rfl rfl H2t zqu24 ?_)
    | (refine zqw rfl rfl rfl H2r zqu51 ?_)
    | (refine zqw rfl rfl rfl H2l zqu68 ?_)
    | fail)
   refine HRO.o.mono ?_;rintro e w3 ⟨b,pr,lr,cr,fr,rfl,hi3,hf3,hb3⟩;have H3d:=shN H2d hb3;have H3t:=shN H2t hb3;have H3r:=shN H2r hb3;have H3l:=shN H2l hb3;have H3R:Hid (RowD w3 p len x.ds):=H2R.o.below hb3;have H3T:Hid (RowD w3 pt lt t.ts):=H2T.o.below hb3;have H3B:=shB H2B hb3;have hsw3:w2.heap.size≤w3.heap.size:=hb3.size;clear hb3 H2d H2t H2r H2l H2R H2T H2B;unfold Ac.v Ac.cs;clear HRO;have H4F:Hid (deb.Fresh w3 w2.heap.size pr lr cr b.ds):=hf3;have HUPF:Hid (0<lr→∀ y,pr=some y→y.block<w3.heap.size):=came_lt H4F.o.came;clear hf3;by_cases h4:fr=0
   ·subst h4
    have hrm:RMay x m∧b=rolled x m:=by
     rcases hi3 with ⟨q,_⟩ | ⟨_,_,q,_⟩ | ⟨_,q,r,_⟩
     ·exact absurd HM.o q
     ·exact absurd rfl q.ne
     ·exact ⟨q,r⟩
    have HRY:Hid (Ready x t m):=⟨HM.o,HT.o,hrm.1⟩
    have HBR:Hid (b=rolled x m):=hrm.2;have hbs:=rolled_same x m;rw [← hrm.2] at hbs;have hbo:=(rolled_may HM.o hrm.1).2.2.2.2.2.1;rw [← hrm.2] at hbo;have HBS:Hid (b.me=x.me∧b.rv=x.rv∧b.nx=x.nx∧b.mo=m∧b.fr=x.fr):=hbs;clear hrm hi3 hbs;obtain ⟨W4,HWW,H5n,HBB,hsW4⟩:=sh1 w3 #[zI b.me,zI b.rv,zI b.nx,zI b.mo,zI b.bo,zI b.fr,.slice pr lr cr] 51;have H5d:=shN H3d HBB.o;have H5t:=shN H3t HBB.o;have H5r:=shN H3r HBB.o;have H5l:=shN H3l HBB.o;have H5R:Hid (RowD W4 p len x.ds):=H3R.o.below HBB.o;have H5T:Hid (RowD W4 pt lt t.ts):=H3T.o.below HBB.o;have H5F:Hid (deb.Fresh W4 w2.heap.size pr lr cr b.ds):=H4F.o.below HBB.o;have H5B:=shB H3B HBB.o;clear H3d H3t H3r H3l H3R H3T H4F H3B;go_upto_region 7 with fail
    rw [HWW.o];clear HWW HBB;by_cases h5:t.al=0
    ·have d5:(t.al == 0)=true:=by simpa using h5
     have HV:Hid (GrantIs x t m ac0 bi0 22):= .inr (.inl ⟨HRY.o,h5,rfl,rfl,rfl⟩);clear h5;have qt4:W4.cell? ⟨w.heap.size+1,4,none⟩=some (zI t.al):=H5t.o.cell 4
     go_wp2_with (first
      | (refine zql rfl rfl rfl rfl zqu51 (by simp [Value.oneCell']) H5r rfl ?_)
      | (refine zqw rfl rfl rfl H5d zqu51 ?_)
      | (refine zqw rfl rfl rfl H5t zqu24 ?_)
      | (refine zqw rfl rfl rfl H5r zqu51 ?_)
      | (refine zqw rfl rfl rfl H5l zqu68 ?_)
      | (refine zqw rfl rfl rfl H5n zqu51 ?_)
      | fail)
     intro W4a hU;have H6d:=shK hU H5d (by omega);have H6t:=shK hU H5t (by omega);have H6r:Hid (Blk W4a (w.heap.size+1+1) #[zI 0,zI 0,zI 0,zI 0,zI 0,zI 0,zS] 51):=hU.blk;have H6l:=shK hU H5l (by omega);have H6n:=shK hU H5n (by omega);have H6F:Hid (deb.Fresh W4a w2.heap.size pr lr cr b.ds):=fresh_updN H5F.o hU (fun hn y hy=>by have f1:=H5F.o.new hn y hy;have f2:=HUPF.o hn y hy;omega);have H6B:=shV hU H5B (by omega);have hsW4a:W4a.heap.size=W4.heap.size:=hU.size;clear hU H5d H5t H5r H5l H5n H5R H5T H5F H5B
     go_wp2_with (first
      | (refine zql rfl rfl rfl rfl zqu68 (by simp [Value.oneCell']) H6l rfl ?_)
      | (refine zqw rfl rfl rfl H6d zqu51 ?_)
      | (refine zqw rfl rfl rfl H6t zqu24 ?_)
      | (refine zqw rfl rfl rfl H6r zqu51 ?_)
      | (refine zqw rfl rfl rfl H6l zqu68 ?_)
      | (refine zqw rfl rfl rfl H6n zqu51 ?_)
      | fail)
     intro W4ab hU;have H7d:=shK hU H6d (by omega);have H7t:=shK hU H6t (by omega);have H7r:=shK hU H6r (by omega);have H7l:Hid (Blk W4ab (w.heap.size+1+1+1) #[zI 0,zI 0,zI 0,zI 0,zI 0,zI 0,zI 0] 68):=hU.blk;have H7n:=shK hU H6n (by omega);have H7F:Hid (deb.Fresh W4ab w2.heap.size pr lr cr b.ds):=fresh_updN H6F.o hU (fun hn y hy=>by have f1:=H6F.o.new hn y hy;have f2:=HUPF.o hn y hy;omega);have H7B:=shV hU H6B (by omega);have hsW4ab:W4ab.heap.size=W4a.heap.size:=hU.size;clear hU H6d H6t H6r H6l H6n H6F H6B;obtain ⟨Rr0,Rr1,Rr2,Rr3,Rr4,Rr5,Rr6⟩:=shc7 H7r;obtain ⟨Rl0,Rl1,Rl2,Rl3,Rl4,Rl5,Rl6⟩:=shc7 H7l;go_wp2_with fail;exact bodyPost_ret (v:= .tuple #[.agg #[zI 0,zI 0,zI 0,zI 0,zI 0,zI 0,zS],.agg #[zI 0,zI 0,zI 0,zI 0,zI 0,zI 0,zI 0],zI 22]) (by simp [results,Tryz.results144,Rr0.o,Rr1.o,Rr2.o,Rr3.o,Rr4.o,Rr5.o,Rr6.o,Rl0.o,Rl1.o,Rl2.o,Rl3.o,Rl4.o,Rl5.o,Rl6.o,go_sem]) rfl ⟨ac0,bi0,none,0,0,_,rfl,HV.o,deb.fresh_nil _ _,H7B.o⟩
    ·have d5:(t.al == 0)=false:=by simpa using h5
     by_cases h6:x.fr=m
     ·have d6:(x.fr == m)=true:=by simpa using h6
      have HV:Hid (GrantIs x t m ac0 bi0 21):= .inr (.inr (.inl ⟨HRY.o,h5,h6,rfl,rfl,rfl⟩));clear h5 h6;have qt4:W4.cell? ⟨w.heap.size+1,4,none⟩=some (zI t.al):=H5t.o.cell 4;have qd5:W4.cell? ⟨w.heap.size,5,none⟩=some (zI x.fr):=H5d.o.cell 5
      go_wp2_with (first
       | (refine zql rfl rfl rfl rfl zqu51 (by simp [Value.oneCell']) H5r rfl ?_)
       | (refine zqw rfl rfl rfl H5d zqu51 ?_)
       | (refine zqw rfl rfl rfl H5t zqu24 ?_)
       | (refine zqw rfl rfl rfl H5r zqu51 ?_)
       | (refine zqw rfl rfl rfl H5l zqu68 ?_)
       | (refine zqw rfl rfl rfl H5n zqu51 ?_)
       | fail)
      intro W4a hU;have H6d:=shK hU H5d (by omega);have H6t:=shK hU H5t (by omega);have H6r:Hid (Blk W4a (w.heap.size+1+1) #[zI 0,zI 0,zI 0,zI 0,zI 0,zI 0,zS] 51):=hU.blk;have H6l:=shK hU H5l (by omega);have H6n:=shK hU H5n (by omega);have H6F:Hid (deb.Fresh W4a w2.heap.size pr lr cr b.ds):=fresh_updN H5F.o hU (fun hn y hy=>by have f1:=H5F.o.new hn y hy;have f2:=HUPF.o hn y hy;omega);have H6B:=shV hU H5B (by omega);have hsW4a:W4a.heap.size=W4.heap.size:=hU.size;clear hU H5d H5t H5r H5l H5n H5R H5T H5F H5B
      go_wp2_with (first
       | (refine zql rfl rfl rfl rfl zqu68 (by simp [Value.oneCell']) H6l rfl ?_)
       | (refine zqw rfl rfl rfl H6d zqu51 ?_)
       | (refine zqw rfl rfl rfl H6t zqu24 ?_)
       | (refine zqw rfl rfl rfl H6r zqu51 ?_)
       | (refine zqw rfl rfl rfl H6l zqu68 ?_)
       | (refine zqw rfl rfl rfl H6n zqu51 ?_)
       | fail)
      intro W4ab hU;have H7d:=shK hU H6d (by omega);have H7t:=shK hU H6t (by omega);have H7r:=shK hU H6r (by omega);have H7l:Hid (Blk W4ab (w.heap.size+1+1+1) #[zI 0,zI 0,zI 0,zI 0,zI 0,zI 0,zI 0] 68):=hU.blk;have H7n:=shK hU H6n (by omega);have H7F:Hid (deb.Fresh W4ab w2.heap.size pr lr cr b.ds):=fresh_updN H6F.o hU (fun hn y hy=>by have f1:=H6F.o.new hn y hy;have f2:=HUPF.o hn y hy;omega);have H7B:=shV hU H6B (by omega);have hsW4ab:W4ab.heap.size=W4a.heap.size:=hU.size;clear hU H6d H6t H6r H6l H6n H6F H6B;obtain ⟨Rr0,Rr1,Rr2,Rr3,Rr4,Rr5,Rr6⟩:=shc7 H7r;obtain ⟨Rl0,Rl1,Rl2,Rl3,Rl4,Rl5,Rl6⟩:=shc7 H7l;go_wp2_with fail;exact bodyPost_ret (v:= .tuple #[.agg #[zI 0,zI 0,zI 0,zI 0,zI 0,zI 0,zS],.agg #[zI 0,zI 0,zI 0,zI 0,zI 0,zI 0,zI 0],zI 21]) (by simp [results,Tryz.results144,Rr0.o,Rr1.o,Rr2.o,Rr3.o,Rr4.o,Rr5.o,Rr6.o,Rl0.o,Rl1.o,Rl2.o,Rl3.o,Rl4.o,Rl5.o,Rl6.o,go_sem]) rfl ⟨ac0,bi0,none,0,0,_,rfl,HV.o,deb.fresh_nil _ _,H7B.o⟩
     ·have d6:(x.fr == m)=false:=by simpa using h6
      by_cases h7:x.nx≤1048575
      ·have d7:(x.nx == 1048576)=false:=by simp;omega
       have qt4:W4.cell? ⟨w.heap.size+1,4,none⟩=some (zI t.al):=H5t.o.cell 4;have qd5:W4.cell? ⟨w.heap.size,5,none⟩=some (zI x.fr):=H5d.o.cell 5;have qd2:W4.cell? ⟨w.heap.size,2,none⟩=some (zI x.nx):=H5d.o.cell 2
       go_wp2_with (first
        | (refine wp_let1 rfl 3 _ _ rfl (w3.heap.size) 5 rfl .i64 m rfl (by kernel_rfl) #[zI b.me,zI b.rv,zI b.nx,zI b.mo,zI b.bo,zI b.fr,.slice pr lr cr] 51 H5n.o (by simp) ?_)
        | fail)
       clear qt4 qd5 qd2;intro W5 hU;have H6d:=shK hU H5d (by omega);have H6t:=shK hU H5t (by omega);have H6r:=shK hU H5r (by omega);have H6l:=shK hU H5l (by omega);have H6n:Hid (Blk W5 (w3.heap.size) #[zI b.me,zI b.rv,zI b.nx,zI b.mo,zI b.bo,zI m,.slice pr lr cr] 51):=hU.blk;have H6F:Hid (deb.Fresh W5 w2.heap.size pr lr cr b.ds):=fresh_updN H5F.o hU (fun hn y hy=>by have f1:=H5F.o.new hn y hy;have f2:=HUPF.o hn y hy;omega);have H6B:=shV hU H5B (by omega);have hsW5:W5.heap.size=W4.heap.size:=hU.size;clear hU H5d H5t H5r H5l H5n H5R H5T H5F H5B;have qd2:W5.cell? ⟨w.heap.size,2,none⟩=some (zI x.nx):=H6d.o.cell 2
       go_wp2_with (first
        | (refine wp_let1 rfl 3 _ _ rfl (w3.heap.size) 2 rfl .i64 (x.nx+1) rfl (by kernel_rfl) #[zI b.me,zI b.rv,zI b.nx,zI b.mo,zI b.bo,zI m,.slice pr lr cr] 51 H6n.o (by simp) ?_)
        | (refine zqw rfl rfl rfl H6d zqu51 ?_)
        | (refine zqw rfl rfl rfl H6t zqu24 ?_)
        | (refine zqw rfl rfl rfl H6r zqu51 ?_)
        | (refine zqw rfl rfl rfl H6l zqu68 ?_)
        | (refine zqw rfl rfl rfl H6n zqu51 ?_)
        | fail)
       intro W6 hU;have H7d:=shK hU H6d (by omega);have H7t:=shK hU H6t (by omega);have H7r:=shK hU H6r (by omega);have H7l:=shK hU H6l (by omega);have H7n:Hid (Blk W6 (w3.heap.size) #[zI b.me,zI b.rv,zI (x.nx+1),zI b.mo,zI b.bo,zI m,.slice pr lr cr] 51):=hU.blk;have H7F:Hid (deb.Fresh W6 w2.heap.size pr lr cr b.ds):=fresh_updN H6F.o hU (fun hn y hy=>by have f1:=H6F.o.new hn y hy;have f2:=HUPF.o hn y hy;omega);have H7B:=shV hU H6B (by omega);have hsW6:W6.heap.size=W5.heap.size:=hU.size;clear hU H6d H6t H6r H6l H6n H6F H6B;clear qd2;go_upto_region 17 with fail
       refine wp_region_held_drew (S:=fun v=>Blk v (w3.heap.size) #[zI b.me,zI b.rv,zI (x.nx+1),zI b.mo,zI b.bo,zI m,.slice pr lr cr] 51∧Blk v (w.heap.size) #[zI x.me,zI x.rv,zI x.nx,zI x.mo,zI x.bo,zI x.fr,.slice p len cap] 51∧Blk v (w.heap.size+1) #[.slice pt lt ct,zI t.ff,zI t.fb,zI t.db,zI t.al] 24) (by kernel_rfl) ⟨Blk.drew H7n.o 1,Blk.drew H7d.o 1,Blk.drew H7t.o 1⟩ (fun hHeld=>?_);refine zqt 0 56 (.agg #[zI b.me,zI b.rv,zI (x.nx+1),zI b.mo,zI b.bo,zI m,.slice pr lr cr]) rfl rfl (by kernel_rfl) zid (Or.inl ⟨by rfl,fun v hv=>by have g0:=hv.1.cell 0;have g1:=hv.1.cell 1;have g2:=hv.1.cell 2;have g3:=hv.1.cell 3;have g4:=hv.1.cell 4;have g5:=hv.1.cell 5;have g6:=hv.1.cell 6;clear hv;go_simp⟩) hHeld ?_;simp only [zq];refine zqs 1 57 (.pointer (some ⟨w.heap.size,2,none⟩)) rfl rfl (by kernel_rfl) zid rfl (fun v hv=>by clear hv;go_simp) hHeld ?_;simp only [zq];refine zqt 2 58 (zI x.nx) rfl rfl (by kernel_rfl) zid (Or.inl ⟨by rfl,fun v hv=>by have g:=hv.2.1.cell 2;clear hv;go_simp⟩) hHeld ?_;simp only [zq];refine zqs 3 59 (.pointer (some ⟨w.heap.size+1,4,none⟩)) rfl rfl (by kernel_rfl) zid rfl (fun v hv=>by clear hv;go_simp) hHeld ?_;simp only [zq];refine zqt 4 60 (zI t.al) rfl rfl (by kernel_rfl) zid (Or.inl ⟨by rfl,fun v hv=>by have g:=hv.2.2.cell 4;clear hv;go_simp⟩) hHeld ?_;simp only [zq];refine zqs 5 61 (.agg #[zI x.nx,zI 0,zI 0,zI 0,zI 0,zI 0,zI t.al]) rfl rfl (by kernel_rfl) zid rfl (fun v hv=>by clear hv;go_simp) hHeld ?_;simp only [zq];refine zqo 6 (by kernel_rfl) rfl (fun K hK=>?_);rw [if_pos (by rfl)];refine wp_letOp 51 _ _ rfl (w.heap.size+1+1) rfl #[zI b.me,zI b.rv,zI (x.nx+1),zI b.mo,zI b.bo,zI m,.slice pr lr cr] rfl (by kernel_rfl) (by simp [Value.oneCell']) #[zI 0,zI 0,zI 0,zI 0,zI 0,zI 0,zS] 51 (Blk.drew H7r.o 1) rfl rfl ?_;intro V1 hU;have H8d:Hid (Blk V1 (w.heap.size) #[zI x.me,zI x.rv,zI x.nx,zI x.mo,zI x.bo,zI x.fr,.slice p len cap] 51):=hU.keep (Blk.drew H7d.o 1) (by omega)
       have H8t:Hid (Blk V1 (w.heap.size+1) #[.slice pt lt ct,zI t.ff,zI t.fb,zI t.db,zI t.al] 24):=hU.keep (Blk.drew H7t.o 1) (by omega);have H8r:Hid (Blk V1 (w.heap.size+1+1) #[zI b.me,zI b.rv,zI (x.nx+1),zI b.mo,zI b.bo,zI m,.slice pr lr cr] 51):=hU.blk;have H8l:Hid (Blk V1 (w.heap.size+1+1+1) #[zI 0,zI 0,zI 0,zI 0,zI 0,zI 0,zI 0] 68):=hU.keep (Blk.drew H7l.o 1) (by omega);have H8n:Hid (Blk V1 (w3.heap.size) #[zI b.me,zI b.rv,zI (x.nx+1),zI b.mo,zI b.bo,zI m,.slice pr lr cr] 51):=hU.keep (Blk.drew H7n.o 1) (by omega);have H8F:Hid (deb.Fresh V1 w2.heap.size pr lr cr b.ds):=fresh_updN (fresh_drew H7F.o) hU (fun hn y hy=>by have f1:=H7F.o.new hn y hy;have f2:=HUPF.o hn y hy;omega);have H8B:Hid (Below w.heap.size w V1):=hU.bel _ _ (by omega) H7B.o.drew;clear hU H7d H7t H7r H7l H7n H7F H7B;refine hK.o _ _ ⟨H8n.o,H8d.o,H8t.o⟩ (fun hHeld=>?_);clear hK K;refine zqo 7 (by kernel_rfl) rfl (fun K hK=>?_);rw [if_pos (by rfl)];refine wp_letOp 68 _ _ rfl (w.heap.size+1+1+1) rfl #[zI x.nx,zI 0,zI 0,zI 0,zI 0,zI 0,zI t.al] rfl (by kernel_rfl) (by simp [Value.oneCell']) #[zI 0,zI 0,zI 0,zI 0,zI 0,zI 0,zI 0] 68 H8l.o rfl rfl ?_;intro V2 hU;have H9d:=shK hU H8d (by omega);have H9t:=shK hU H8t (by omega);have H9r:=shK hU H8r (by omega);have H9l:Hid (Blk V2 (w.heap.size+1+1+1) #[zI x.nx,zI 0,zI 0,zI 0,zI 0,zI 0,zI t.al] 68):=hU.blk;have H9n:=shK hU H8n (by omega);have H9F:Hid (deb.Fresh V2 w2.heap.size pr lr cr b.ds):=fresh_updN H8F.o hU (fun hn y hy=>by have f1:=H8F.o.new hn y hy;have f2:=HUPF.o hn y hy;omega);have H9B:=shV hU H8B (by omega);clear hU H8d H8t H8r H8l H8n H8F H8B;refine hK.o _ _ ⟨H9n.o,H9d.o,H9t.o⟩ (fun hHeld=>?_);clear hK K;refine zqs 8 8 (zI 0) rfl rfl (by kernel_rfl) zid rfl (fun v hv=>by clear hv;go_simp) hHeld ?_;simp only [zq];refine wpAnyH_done (by kernel_rfl) ?_ _;clear hHeld
       have HGV:Hid (⟨b.me,b.rv,x.nx+1,b.mo,b.bo,m,b.ds⟩=granted x m):=by
        show _=_;unfold granted;rw [← HBR.o,HBS.o.1,HBS.o.2.1,HBS.o.2.2.2.1]
       obtain ⟨Rr0,Rr1,Rr2,Rr3,Rr4,Rr5,Rr6⟩:=shc7 H9r;obtain ⟨Rl0,Rl1,Rl2,Rl3,Rl4,Rl5,Rl6⟩:=shc7 H9l;go_wp2_with fail;exact bodyPost_ret (v:= .tuple #[.agg #[zI b.me,zI b.rv,zI (x.nx+1),zI b.mo,zI b.bo,zI m,.slice pr lr cr],.agg #[zI x.nx,zI 0,zI 0,zI 0,zI 0,zI 0,zI t.al],zI 0]) (by simp [results,Tryz.results144,Rr0.o,Rr1.o,Rr2.o,Rr3.o,Rr4.o,Rr5.o,Rr6.o,Rl0.o,Rl1.o,Rl2.o,Rl3.o,Rl4.o,Rl5.o,Rl6.o,go_sem]) rfl ⟨⟨b.me,b.rv,x.nx+1,b.mo,b.bo,m,b.ds⟩,⟨x.nx,0,0,0,0,0,t.al⟩,pr,lr,cr,_,rfl,.inr (.inr (.inr (.inr ⟨HRY.o,h5,h6,h7,rfl,HGV.o,rfl⟩))),H9F.o.low (by omega),H9B.o⟩
      ·have d7:(x.nx == 1048576)=true:=by simp;omega
       have HV:Hid (GrantIs x t m ac0 bi0 20):= .inr (.inr (.inr (.inl ⟨HRY.o,h5,h6,h7,rfl,rfl,rfl⟩)));clear h5 h6 h7;have qt4:W4.cell? ⟨w.heap.size+1,4,none⟩=some (zI t.al):=H5t.o.cell 4;have qd5:W4.cell? ⟨w.heap.size,5,none⟩=some (zI x.fr):=H5d.o.cell 5;have qd2:W4.cell? ⟨w.heap.size,2,none⟩=some (zI x.nx):=H5d.o.cell 2
       go_wp2_with (first
        | (refine zql rfl rfl rfl rfl zqu51 (by simp [Value.oneCell']) H5r rfl ?_)
        | (refine zqw rfl rfl rfl H5d zqu51 ?_)
        | (refine zqw rfl rfl rfl H5t zqu24 ?_)
        | (refine zqw rfl rfl rfl H5r zqu51 ?_)
        | (refine zqw rfl rfl rfl H5l zqu68 ?_)
        | (refine zqw rfl rfl rfl H5n zqu51 ?_)
        | fail)
       intro W4a hU;have H6d:=shK hU H5d (by omega);have H6t:=shK hU H5t (by omega);have H6r:Hid (Blk W4a (w.heap.size+1+1) #[zI 0,zI 0,zI 0,zI 0,zI 0,zI 0,zS] 51):=hU.blk;have H6l:=shK hU H5l (by omega);have H6n:=shK hU H5n (by omega);have H6F:Hid (deb.Fresh W4a w2.heap.size pr lr cr b.ds):=fresh_updN H5F.o hU (fun hn y hy=>by have f1:=H5F.o.new hn y hy;have f2:=HUPF.o hn y hy;omega);have H6B:=shV hU H5B (by omega);have hsW4a:W4a.heap.size=W4.heap.size:=hU.size;clear hU H5d H5t H5r H5l H5n H5R H5T H5F H5B
       go_wp2_with (first
        | (refine zql rfl rfl rfl rfl zqu68 (by simp [Value.oneCell']) H6l rfl ?_)
        | (refine zqw rfl rfl rfl H6d zqu51 ?_)
        | (refine zqw rfl rfl rfl H6t zqu24 ?_)
        | (refine zqw rfl rfl rfl H6r zqu51 ?_)
        | (refine zqw rfl rfl rfl H6l zqu68 ?_)
        | (refine zqw rfl rfl rfl H6n zqu51 ?_)
        | fail)
       intro W4ab hU;have H7d:=shK hU H6d (by omega);have H7t:=shK hU H6t (by omega);have H7r:=shK hU H6r (by omega);have H7l:Hid (Blk W4ab (w.heap.size+1+1+1) #[zI 0,zI 0,zI 0,zI 0,zI 0,zI 0,zI 0] 68):=hU.blk;have H7n:=shK hU H6n (by omega);have H7F:Hid (deb.Fresh W4ab w2.heap.size pr lr cr b.ds):=fresh_updN H6F.o hU (fun hn y hy=>by have f1:=H6F.o.new hn y hy;have f2:=HUPF.o hn y hy;omega);have H7B:=shV hU H6B (by omega);have hsW4ab:W4ab.heap.size=W4a.heap.size:=hU.size;clear hU H6d H6t H6r H6l H6n H6F H6B;obtain ⟨Rr0,Rr1,Rr2,Rr3,Rr4,Rr5,Rr6⟩:=shc7 H7r;obtain ⟨Rl0,Rl1,Rl2,Rl3,Rl4,Rl5,Rl6⟩:=shc7 H7l;go_wp2_with fail;exact bodyPost_ret (v:= .tuple #[.agg #[zI 0,zI 0,zI 0,zI 0,zI 0,zI 0,zS],.agg #[zI 0,zI 0,zI 0,zI 0,zI 0,zI 0,zI 0],zI 20]) (by simp [results,Tryz.results144,Rr0.o,Rr1.o,Rr2.o,Rr3.o,Rr4.o,Rr5.o,Rr6.o,Rl0.o,Rl1.o,Rl2.o,Rl3.o,Rl4.o,Rl5.o,Rl6.o,go_sem]) rfl ⟨ac0,bi0,none,0,0,_,rfl,HV.o,deb.fresh_nil _ _,H7B.o⟩
   ·have hne:(fr != 0)=true:=by simpa using h4
    have HV:Hid (Refused x t m fr):=by
     rcases hi3 with ⟨q,_⟩ | ⟨_,q,r,_⟩ | ⟨_,_,_,r⟩
     ·exact absurd HM.o q
     ·exact .inr (.inr ⟨HM.o,HT.o,q,r⟩)
     ·exact absurd r h4
    clear hi3 h4;obtain ⟨W4,HWW,H5n,HBB,hsW4⟩:=sh1 w3 #[zI b.me,zI b.rv,zI b.nx,zI b.mo,zI b.bo,zI b.fr,.slice pr lr cr] 51;have H5d:=shN H3d HBB.o;have H5t:=shN H3t HBB.o;have H5r:=shN H3r HBB.o;have H5l:=shN H3l HBB.o;have H5R:Hid (RowD W4 p len x.ds):=H3R.o.below HBB.o;have H5T:Hid (RowD W4 pt lt t.ts):=H3T.o.below HBB.o;have H5F:Hid (deb.Fresh W4 w2.heap.size pr lr cr b.ds):=H4F.o.below HBB.o;have H5B:=shB H3B HBB.o;clear H3d H3t H3r H3l H3R H3T H4F H3B;go_upto_region 7 with fail
    rw [HWW.o];clear HWW HBB
    go_wp2_with (first
     | (refine zql rfl rfl rfl rfl zqu51 (by simp [Value.oneCell']) H5r rfl ?_)
     | (refine zqw rfl rfl rfl H5d zqu51 ?_)
     | (refine zqw rfl rfl rfl H5t zqu24 ?_)
     | (refine zqw rfl rfl rfl H5r zqu51 ?_)
     | (refine zqw rfl rfl rfl H5l zqu68 ?_)
     | (refine zqw rfl rfl rfl H5n zqu51 ?_)
     | fail)
    intro W4a hU;have H6d:=shK hU H5d (by omega);have H6t:=shK hU H5t (by omega);have H6r:Hid (Blk W4a (w.heap.size+1+1) #[zI 0,zI 0,zI 0,zI 0,zI 0,zI 0,zS] 51):=hU.blk;have H6l:=shK hU H5l (by omega);have H6n:=shK hU H5n (by omega);have H6F:Hid (deb.Fresh W4a w2.heap.size pr lr cr b.ds):=fresh_updN H5F.o hU (fun hn y hy=>by have f1:=H5F.o.new hn y hy;have f2:=HUPF.o hn y hy;omega);have H6B:=shV hU H5B (by omega);have hsW4a:W4a.heap.size=W4.heap.size:=hU.size;clear hU H5d H5t H5r H5l H5n H5R H5T H5F H5B
    go_wp2_with (first
     | (refine zql rfl rfl rfl rfl zqu68 (by simp [Value.oneCell']) H6l rfl ?_)
     | (refine zqw rfl rfl rfl H6d zqu51 ?_)
     | (refine zqw rfl rfl rfl H6t zqu24 ?_)
     | (refine zqw rfl rfl rfl H6r zqu51 ?_)
     | (refine zqw rfl rfl rfl H6l zqu68 ?_)
     | (refine zqw rfl rfl rfl H6n zqu51 ?_)
     | fail)
    intro W4ab hU;have H7d:=shK hU H6d (by omega);have H7t:=shK hU H6t (by omega);have H7r:=shK hU H6r (by omega);have H7l:Hid (Blk W4ab (w.heap.size+1+1+1) #[zI 0,zI 0,zI 0,zI 0,zI 0,zI 0,zI 0] 68):=hU.blk;have H7n:=shK hU H6n (by omega);have H7F:Hid (deb.Fresh W4ab w2.heap.size pr lr cr b.ds):=fresh_updN H6F.o hU (fun hn y hy=>by have f1:=H6F.o.new hn y hy;have f2:=HUPF.o hn y hy;omega);have H7B:=shV hU H6B (by omega);have hsW4ab:W4ab.heap.size=W4a.heap.size:=hU.size;clear hU H6d H6t H6r H6l H6n H6F H6B;obtain ⟨Rr0,Rr1,Rr2,Rr3,Rr4,Rr5,Rr6⟩:=shc7 H7r;obtain ⟨Rl0,Rl1,Rl2,Rl3,Rl4,Rl5,Rl6⟩:=shc7 H7l;go_wp2_with fail;exact bodyPost_ret (v:= .tuple #[.agg #[zI 0,zI 0,zI 0,zI 0,zI 0,zI 0,zS],.agg #[zI 0,zI 0,zI 0,zI 0,zI 0,zI 0,zI 0],zI fr]) (by simp [results,Tryz.results144,Rr0.o,Rr1.o,Rr2.o,Rr3.o,Rr4.o,Rr5.o,Rr6.o,Rl0.o,Rl1.o,Rl2.o,Rl3.o,Rl4.o,Rl5.o,Rl6.o,go_sem]) rfl ⟨ac0,bi0,none,0,0,_,rfl,.inl ⟨HV.o,rfl,rfl⟩,deb.fresh_nil _ _,H7B.o⟩
  ·have hne:(ft != 0)=true:=by simpa using h0
   have HV:Hid (Refused x t m ft):= .inr (.inl ⟨HM.o,fun h=>h0 (hft.ok.2 h),hft⟩);clear hft h0
   go_wp2_with (first
    | (refine zql rfl rfl rfl rfl zqu51 (by simp [Value.oneCell']) H2r rfl ?_)
    | (refine zqw rfl rfl rfl H2d zqu51 ?_)
    | (refine zqw rfl rfl rfl H2t zqu24 ?_)
    | (refine zqw rfl rfl rfl H2r zqu51 ?_)
    | (refine zqw rfl rfl rfl H2l zqu68 ?_)
    | fail)
   intro w2a hU;have H3d:=shK hU H2d (by omega);have H3t:=shK hU H2t (by omega);have H3r:Hid (Blk w2a (w.heap.size+1+1) #[zI 0,zI 0,zI 0,zI 0,zI 0,zI 0,zS] 51):=hU.blk;have H3l:=shK hU H2l (by omega);have H3B:=shV hU H2B (by omega);have hsw2a:w2a.heap.size=w2.heap.size:=hU.size;clear hU H2d H2t H2r H2l H2R H2T H2B
   go_wp2_with (first
    | (refine zql rfl rfl rfl rfl zqu68 (by simp [Value.oneCell']) H3l rfl ?_)
    | (refine zqw rfl rfl rfl H3d zqu51 ?_)
    | (refine zqw rfl rfl rfl H3t zqu24 ?_)
    | (refine zqw rfl rfl rfl H3r zqu51 ?_)
    | (refine zqw rfl rfl rfl H3l zqu68 ?_)
    | fail)
   intro w2ab hU;have H4d:=shK hU H3d (by omega);have H4t:=shK hU H3t (by omega);have H4r:=shK hU H3r (by omega);have H4l:Hid (Blk w2ab (w.heap.size+1+1+1) #[zI 0,zI 0,zI 0,zI 0,zI 0,zI 0,zI 0] 68):=hU.blk;have H4B:=shV hU H3B (by omega);have hsw2ab:w2ab.heap.size=w2a.heap.size:=hU.size;clear hU H3d H3t H3r H3l H3B;obtain ⟨Rr0,Rr1,Rr2,Rr3,Rr4,Rr5,Rr6⟩:=shc7 H4r;obtain ⟨Rl0,Rl1,Rl2,Rl3,Rl4,Rl5,Rl6⟩:=shc7 H4l;go_wp2_with fail;exact bodyPost_ret (v:= .tuple #[.agg #[zI 0,zI 0,zI 0,zI 0,zI 0,zI 0,zS],.agg #[zI 0,zI 0,zI 0,zI 0,zI 0,zI 0,zI 0],zI ft]) (by simp [results,Tryz.results144,Rr0.o,Rr1.o,Rr2.o,Rr3.o,Rr4.o,Rr5.o,Rr6.o,Rl0.o,Rl1.o,Rl2.o,Rl3.o,Rl4.o,Rl5.o,Rl6.o,go_sem]) rfl ⟨ac0,bi0,none,0,0,_,rfl,.inl ⟨HV.o,rfl,rfl⟩,deb.fresh_nil _ _,H4B.o⟩
 ·have HM:Hid (¬ AMay x):=hm;obtain ⟨W0,HWW,H0d,H0t,H0r,H0l,H0B,hs0⟩:=sh4 w #[zI x.me,zI x.rv,zI x.nx,zI x.mo,zI x.bo,zI x.fr,.slice p len cap] 51 #[.slice pt lt ct,zI t.ff,zI t.fb,zI t.db,zI t.al] 24 #[zI 0,zI 0,zI 0,zI 0,zI 0,zI 0,zS] 51 #[zI 0,zI 0,zI 0,zI 0,zI 0,zI 0,zI 0] 68;have H0R:Hid (RowD W0 p len x.ds):=h.below H0B.o;have H0T:Hid (RowD W0 pt lt t.ts):=ht.below H0B.o;go_enter Tryz.func144,Tryz.ntmps144;go_upto_region 1 with fail
  rw [HWW.o];clear HWW;have HAM:Hid (Calls Tryz.prog 173 #[.agg #[zI x.me,zI x.rv,zI x.nx,zI x.mo,zI x.bo,zI x.fr,.slice p len cap]] W0 fun e w'=>e = .returned (.bool false)∧Below W0.heap.size W0 w'):=ranot x p len cap _ H0R.o hl hm
  go_wp2_with (first
   | (refine zqw rfl rfl rfl H0d zqu51 ?_)
   | (refine zqw rfl rfl rfl H0t zqu24 ?_)
   | (refine zqw rfl rfl rfl H0r zqu51 ?_)
   | (refine zqw rfl rfl rfl H0l zqu68 ?_)
   | fail)
  refine HAM.o.mono ?_;rintro e w1 ⟨rfl,hb1⟩;have H1d:=shN H0d hb1;have H1t:=shN H0t hb1;have H1r:=shN H0r hb1;have H1l:=shN H0l hb1;have H1R:Hid (RowD w1 p len x.ds):=H0R.o.below hb1;have H1T:Hid (RowD w1 pt lt t.ts):=H0T.o.below hb1;have H1B:=shB H0B hb1;have hsw1:W0.heap.size≤w1.heap.size:=hb1.size;clear hb1 H0d H0t H0r H0l H0R H0T H0B;clear HAM
  go_wp2_with (first
   | (refine zql rfl rfl rfl rfl zqu51 (by simp [Value.oneCell']) H1r rfl ?_)
   | (refine zqw rfl rfl rfl H1d zqu51 ?_)
   | (refine zqw rfl rfl rfl H1t zqu24 ?_)
   | (refine zqw rfl rfl rfl H1r zqu51 ?_)
   | (refine zqw rfl rfl rfl H1l zqu68 ?_)
   | fail)
  intro w1a hU;have H2d:=shK hU H1d (by omega);have H2t:=shK hU H1t (by omega);have H2r:Hid (Blk w1a (w.heap.size+1+1) #[zI 0,zI 0,zI 0,zI 0,zI 0,zI 0,zS] 51):=hU.blk;have H2l:=shK hU H1l (by omega);have H2B:=shV hU H1B (by omega);have hsw1a:w1a.heap.size=w1.heap.size:=hU.size;clear hU H1d H1t H1r H1l H1R H1T H1B
  go_wp2_with (first
   | (refine zql rfl rfl rfl rfl zqu68 (by simp [Value.oneCell']) H2l rfl ?_)
   | (refine zqw rfl rfl rfl H2d zqu51 ?_)
   | (refine zqw rfl rfl rfl H2t zqu24 ?_)
   | (refine zqw rfl rfl rfl H2r zqu51 ?_)
   | (refine zqw rfl rfl rfl H2l zqu68 ?_)
   | fail)
  intro w1ab hU;have H3d:=shK hU H2d (by omega);have H3t:=shK hU H2t (by omega);have H3r:=shK hU H2r (by omega);have H3l:Hid (Blk w1ab (w.heap.size+1+1+1) #[zI 0,zI 0,zI 0,zI 0,zI 0,zI 0,zI 0] 68):=hU.blk;have H3B:=shV hU H2B (by omega);have hsw1ab:w1ab.heap.size=w1a.heap.size:=hU.size;clear hU H2d H2t H2r H2l H2B;obtain ⟨Rr0,Rr1,Rr2,Rr3,Rr4,Rr5,Rr6⟩:=shc7 H3r;obtain ⟨Rl0,Rl1,Rl2,Rl3,Rl4,Rl5,Rl6⟩:=shc7 H3l;go_wp2_with fail;exact bodyPost_ret (v:= .tuple #[.agg #[zI 0,zI 0,zI 0,zI 0,zI 0,zI 0,zS],.agg #[zI 0,zI 0,zI 0,zI 0,zI 0,zI 0,zI 0],zI 5]) (by simp [results,Tryz.results144,Rr0.o,Rr1.o,Rr2.o,Rr3.o,Rr4.o,Rr5.o,Rr6.o,Rl0.o,Rl1.o,Rl2.o,Rl3.o,Rl4.o,Rl5.o,Rl6.o,go_sem]) rfl ⟨ac0,bi0,none,0,0,_,rfl,.inl ⟨.inl ⟨HM.o,rfl⟩,rfl,rfl⟩,deb.fresh_nil _ _,H3B.o⟩
end acc
end Go.Proofs.YtnpblpbohcegoaaGreatDoor
