import Derived.Test.YtnpblpbohcegoaaGreatDoorVVRts18
import Derived.Test.YtnpblpbohcegoaaGreatDoorVVRts26
import Derived.Test.YtnpblpbohcegoaaGreatDoorVVRts31
set_option linter.unusedVariables false
set_option linter.unusedSimpArgs false
set_option maxHeartbeats 4000000
set_option maxRecDepth 100000
namespace Go.Proofs.YtnpblpbohcegoaaGreatDoor
namespace acc
open tar (Du du0 Came RowD Ld PairT)
open Go.RowKit
theorem rsold (x:Ac) (p:Option Addr) (len cap:Nat) (t:Tm) (pt:Option Addr) (lt ct:Nat) (te m:Int) (w:World) (h:RowD w p len x.ds) (hl:len≤maxLen) (ht:RowD w pt lt t.ts) (htl:lt≤maxLen):Calls Tryz.prog 143 #[.agg #[zI x.me,zI x.rv,zI x.nx,zI x.mo,zI x.bo,zI x.fr,.slice p len cap],.agg #[.slice pt lt ct,zI t.ff,zI t.fb,zI t.db,zI t.al],zI te,zI m] w fun e w'=>BPost w (SellIs x t te m) e w':=by
 have HIT:Hid (∀ W,Calls Tryz.prog 101 #[zI te,zI 1,zI 100000000] W fun e w'=>e = .returned (.bool (decide (1≤te∧te≤100000000)))∧w'=W):=fun W=>cal.cin te 1 100000000 W;by_cases hm:AMay x
 ·have HM:Hid (AMay x):=hm;have hnx:=hm.2.2.2.1;have hmo:=hm.2.2.2.2.1;obtain ⟨W0,HWW,H0d,H0t,H0r,H0l,H0B,hs0⟩:=sh4 w #[zI x.me,zI x.rv,zI x.nx,zI x.mo,zI x.bo,zI x.fr,.slice p len cap] 51 #[.slice pt lt ct,zI t.ff,zI t.fb,zI t.db,zI t.al] 24 #[zI 0,zI 0,zI 0,zI 0,zI 0,zI 0,zS] 51 #[zI 0,zI 0,zI 0,zI 0,zI 0,zI 0,zI 0] 68;have H0R:Hid (RowD W0 p len x.ds):=h.below H0B.o;have H0T:Hid (RowD W0 pt lt t.ts):=ht.below H0B.o;go_enter Tryz.func143,Tryz.ntmps143;go_upto_region 1 with fail
  rw [HWW.o];clear HWW;have HAM:Hid (Calls Tryz.prog 173 #[.agg #[zI x.me,zI x.rv,zI x.nx,zI x.mo,zI x.bo,zI x.fr,.slice p len cap]] W0 fun e w'=>e = .returned (.bool true)∧Below W0.heap.size W0 w'):=ramay x p len cap _ H0R.o hl hm
  go_wp2_with (first
   | (refine zqw rfl rfl rfl H0d zqu51 ?_)
   | (refine zqw rfl rfl rfl H0t zqu24 ?_)
   | (refine zqw rfl rfl rfl H0r zqu51 ?_)
   | (refine zqw rfl rfl rfl H0l zqu68 ?_)
   | fail)
  refine HAM.o.mono ?_;rintro e w1 ⟨rfl,hb1⟩;have H1d:=shN H0d hb1;have H1t:=shN H0t hb1;have H1r:=shN H0r hb1;have H1l:=shN H0l hb1;have H1R:Hid (RowD w1 p len x.ds):=H0R.o.below hb1;have H1T:Hid (RowD w1 pt lt t.ts):=H0T.o.below hb1;have H1B:=shB H0B hb1;have hsw1:W0.heap.size≤w1.heap.size:=hb1.size;clear hb1 H0d H0t H0r H0l H0R H0T H0B;clear HAM;clear hm;have HTF:Hid (Calls Tryz.prog 97 #[.agg #[.slice pt lt ct,zI t.ff,zI t.fb,zI t.db,zI t.al]] w1 fun e w'=>tar.ErrPost w1 (TFault t) e w'):=rterms t pt lt ct w1 H1T.o htl
  go_wp2_with (first
   | (refine zqw rfl rfl rfl H1d zqu51 ?_)
   | (refine zqw rfl rfl rfl H1t zqu24 ?_)
   | (refine zqw rfl rfl rfl H1r zqu51 ?_)
   | (refine zqw rfl rfl rfl H1l zqu68 ?_)
   | fail)
  refine HTF.o.mono ?_;rintro e w2 ⟨ft,rfl,hft,hb2⟩;have H2d:=shN H1d hb2;have H2t:=shN H1t hb2;have H2r:=shN H1r hb2;have H2l:=shN H1l hb2;have H2R:Hid (RowD w2 p len x.ds):=H1R.o.below hb2;have H2T:Hid (RowD w2 pt lt t.ts):=H1T.o.below hb2;have H2B:=shB H1B hb2;have hsw2:w1.heap.size≤w2.heap.size:=hb2.size;clear hb2 H1d H1t H1r H1l H1R H1T H1B;clear HTF;by_cases h0:ft=0
  ·subst h0;have HT:Hid (TRight t):=hft.ok.1 rfl;clear hft;have HRO:Hid (Calls Tryz.prog 175 #[.agg #[zI x.me,zI x.rv,zI x.nx,zI x.mo,zI x.bo,zI x.fr,.slice p len cap],zI m] w2 fun e w'=>APost w2 (RollIs x m) e w'):=rrolled x p len cap m w2 H2R.o hl
   go_wp2_with (first
    | (refine zqw rfl rfl rfl H2d zqu51 ?_)
    | (refine zqw rfl rfl rfl H2t zqu24 ?_)
    | (refine zqw rfl rfl rfl H2r zqu51 ?_)
    | (refine zqw rfl rfl rfl H2l zqu68 ?_)
    | fail)
   refine HRO.o.mono ?_;rintro e w3 ⟨b,pr,lr,cr,fr,rfl,hi3,hf3,hb3⟩;have H3d:=shN H2d hb3;have H3t:=shN H2t hb3;have H3r:=shN H2r hb3;have H3l:=shN H2l hb3;have H3R:Hid (RowD w3 p len x.ds):=H2R.o.below hb3;have H3T:Hid (RowD w3 pt lt t.ts):=H2T.o.below hb3;have H3B:=shB H2B hb3;have hsw3:w2.heap.size≤w3.heap.size:=hb3.size;clear hb3 H2d H2t H2r H2l H2R H2T H2B;unfold Ac.v Ac.cs;clear HRO;have H4F:Hid (deb.Fresh w3 w2.heap.size pr lr cr b.ds):=hf3;have HUPF:Hid (0<lr→∀ y,pr=some y→y.block<w3.heap.size):=came_lt H4F.o.came;clear hf3;by_cases h4:fr=0
   ·subst h4
    have hrm:RMay x m∧b=rolled x m:=by
     rcases hi3 with ⟨q,_⟩ | ⟨_,_,q,_⟩ | ⟨_,q,r,_⟩
     ·exact absurd HM.o q
     ·exact absurd rfl q.ne
     ·exact ⟨q,r⟩
    have HRY:Hid (Ready x t m):=⟨HM.o,HT.o,hrm.1⟩
    have HBR:Hid (b=rolled x m):=hrm.2;have hbs:=rolled_same x m;rw [← hrm.2] at hbs;have hbo:=(rolled_may HM.o hrm.1).2.2.2.2.2.1;rw [← hrm.2] at hbo;have HBS:Hid (b.me=x.me∧b.rv=x.rv∧b.nx=x.nx∧b.mo=m∧b.fr=x.fr):=hbs;clear hrm hi3 hbs;obtain ⟨W4,HWW,H5n,HBB,hsW4⟩:=sh1 w3 #[zI b.me,zI b.rv,zI b.nx,zI b.mo,zI b.bo,zI b.fr,.slice pr lr cr] 51;have H5d:=shN H3d HBB.o;have H5t:=shN H3t HBB.o;have H5r:=shN H3r HBB.o;have H5l:=shN H3l HBB.o;have H5R:Hid (RowD W4 p len x.ds):=H3R.o.below HBB.o;have H5T:Hid (RowD W4 pt lt t.ts):=H3T.o.below HBB.o;have H5F:Hid (deb.Fresh W4 w2.heap.size pr lr cr b.ds):=H4F.o.below HBB.o;have H5B:=shB H3B HBB.o;clear H3d H3t H3r H3l H3R H3T H4F H3B;go_upto_region 7 with fail
    rw [HWW.o];clear HWW HBB;have hdm:deb.Mays b.ds:=by rw [HBR.o];exact (rolled_may HM.o HRY.o.2.2).1
    by_cases h5:1≤te∧te≤100000000
    ·rw [decide_eq_true h5] at HIT
     go_wp2_with (first
      | fail)
     refine (HIT.o _).mono ?_;rintro e wz ⟨rfl,hwz⟩;obtain rfl:W4=wz:=hwz.symm;clear HIT;have htok:=HT.o.2;have HTM:Hid (deb.TMay te t.db):=⟨⟨by omega,h5.2⟩,htok.2.2.1⟩
     have HRE:Hid (Calls Tryz.prog 176 #[.slice pr lr cr,zI te,zI t.db] W4 fun e w'=>deb.RecPost W4 b.ds te t.db e w'):=deb.rrec pr lr cr b.ds te t.db W4 H5F.o.came.row H5F.o.came.most;have HPA:Hid (∀ W,Calls Tryz.prog 177 #[zI te,zI t.fb] W fun e w'=>e = .returned (.tuple #[zI (te*t.fb / 10000),zI 0])∧w'=W):=fun W=>deb.rparted te t.fb W ⟨⟨by omega,by omega⟩,htok.2.1⟩;have hpb:=deb.share_bd (t:=te) (bp:=t.fb) ⟨⟨by omega,h5.2⟩,htok.2.1⟩;have hsb:=deb.share_bd HTM.o;have qn6:W4.cell? ⟨w3.heap.size,6,none⟩=some (.slice pr lr cr):=H5n.o.cell 6;have qt3:W4.cell? ⟨w.heap.size+1,3,none⟩=some (zI t.db):=H5t.o.cell 3;go_wp2_with fail;clear qn6 qt3;refine HRE.o.mono ?_;rintro e w5 ⟨pz,lz,cz,z,pd,fz,rfl,hi5,hf5,hb5⟩;have H6d:=shN H5d hb5;have H6t:=shN H5t hb5;have H6r:=shN H5r hb5;have H6l:=shN H5l hb5;have H6n:=shN H5n hb5;have H6T:Hid (RowD w5 pt lt t.ts):=H5T.o.below hb5;have H6F:Hid (deb.Fresh w5 w2.heap.size pr lr cr b.ds):=H5F.o.below hb5;have H6B:=shB H5B hb5;have hsw5:W4.heap.size≤w5.heap.size:=hb5.size;clear hb5 H5d H5t H5r H5l H5n H5T H5F H5B;obtain ⟨rfl,hz,hpd⟩:=hi5.got hdm HTM.o;clear hi5 HRE;have H7Z:Hid (deb.Fresh w5 W4.heap.size pz lz cz z):=hf5;have HUPZ:Hid (0<lz→∀ y,pz=some y→y.block<w5.heap.size):=came_lt H7Z.o.came;clear hf5;have hT0:=(deb.sumD_pos (deb.mem_fits hdm.2)).1;have hpd0:0≤pd:=by rw [hpd];omega
     have hpd1:pd≤100000000:=by rw [hpd];omega
     have HPD:Hid (pd=paid x t te m):=by show _=_;rw [hpd];unfold paid share;rw [← HBR.o]
     have HZV:Hid (z=deb.recK (rolled x m).ds (share t te) (rolled x m).ds.length):=by show _=_;rw [hz];unfold share;rw [← HBR.o]
     have HFE:Hid (t.ff+te*t.fb / 10000=fee t te):=rfl;clear hpd hz hT0;have qt2:w5.cell? ⟨w.heap.size+1,2,none⟩=some (zI t.fb):=H6t.o.cell 2;go_wp2_with fail;refine (HPA.o _).mono ?_;rintro e wz ⟨rfl,hwz⟩;obtain rfl:w5=wz:=hwz.symm;clear HPA qt2;generalize te*t.fb / 10000=pq at *;have hff:=htok.1;have HRS:Hid (te - pd - (t.ff+pq)=rest x t te m):=by show _=_;unfold rest;rw [HPD.o,HFE.o]
     have HRG:=HT.o.1;clear htok;by_cases h6:te - pd - (t.ff+pq)<0
     ·have d6:decide (te - pd - (t.ff+pq)<0)=true:=decide_eq_true h6;have HV:Hid (SellIs x t te m ac0 bi0 19):= .inr (.inl ⟨HRY.o,fun hh=>by have:=hh.2.1;rw [← HRS.o] at this;omega,rfl,rfl,rfl⟩);clear HRG;have qt1:w5.cell? ⟨w.heap.size+1,1,none⟩=some (zI t.ff):=H6t.o.cell 1
      go_wp2_with (first
       | (refine zql rfl rfl rfl rfl zqu51 (by simp [Value.oneCell']) H6r rfl ?_)
       | (refine zqw rfl rfl rfl H6d zqu51 ?_)
       | (refine zqw rfl rfl rfl H6t zqu24 ?_)
       | (refine zqw rfl rfl rfl H6r zqu51 ?_)
       | (refine zqw rfl rfl rfl H6l zqu68 ?_)
       | (refine zqw rfl rfl rfl H6n zqu51 ?_)
       | fail)
      intro w5a hU;have H8d:=shK hU H6d (by omega);have H8t:=shK hU H6t (by omega);have H8r:Hid (Blk w5a (w.heap.size+1+1) #[zI 0,zI 0,zI 0,zI 0,zI 0,zI 0,zS] 51):=hU.blk;have H8l:=shK hU H6l (by omega);have H8n:=shK hU H6n (by omega);have H8Z:Hid (deb.Fresh w5a W4.heap.size pz lz cz z):=fresh_updN H7Z.o hU (fun hn y hy=>by have f1:=H7Z.o.new hn y hy;have f2:=HUPZ.o hn y hy;omega);have H8B:=shV hU H6B (by omega);have hsw5a:w5a.heap.size=w5.heap.size:=hU.size;clear hU H6d H6t H6r H6l H6n H6T H7Z H6B
      go_wp2_with (first
       | (refine zql rfl rfl rfl rfl zqu68 (by simp [Value.oneCell']) H8l rfl ?_)
       | (refine zqw rfl rfl rfl H8d zqu51 ?_)
       | (refine zqw rfl rfl rfl H8t zqu24 ?_)
       | (refine zqw rfl rfl rfl H8r zqu51 ?_)
       | (refine zqw rfl rfl rfl H8l zqu68 ?_)
       | (refine zqw rfl rfl rfl H8n zqu51 ?_)
       | fail)
      intro w5ab hU;have H9d:=shK hU H8d (by omega);have H9t:=shK hU H8t (by omega);have H9r:=shK hU H8r (by omega);have H9l:Hid (Blk w5ab (w.heap.size+1+1+1) #[zI 0,zI 0,zI 0,zI 0,zI 0,zI 0,zI 0] 68):=hU.blk;have H9n:=shK hU H8n (by omega);have H9Z:Hid (deb.Fresh w5ab W4.heap.size pz lz cz z):=fresh_updN H8Z.o hU (fun hn y hy=>by have f1:=H8Z.o.new hn y hy;have f2:=HUPZ.o hn y hy;omega);have H9B:=shV hU H8B (by omega);have hsw5ab:w5ab.heap.size=w5a.heap.size:=hU.size;clear hU H8d H8t H8r H8l H8n H8Z H8B;obtain ⟨Rr0,Rr1,Rr2,Rr3,Rr4,Rr5,Rr6⟩:=shc7 H9r;obtain ⟨Rl0,Rl1,Rl2,Rl3,Rl4,Rl5,Rl6⟩:=shc7 H9l;go_wp2_with fail;exact bodyPost_ret (v:= .tuple #[.agg #[zI 0,zI 0,zI 0,zI 0,zI 0,zI 0,zS],.agg #[zI 0,zI 0,zI 0,zI 0,zI 0,zI 0,zI 0],zI 19]) (by simp [results,Tryz.results143,Rr0.o,Rr1.o,Rr2.o,Rr3.o,Rr4.o,Rr5.o,Rr6.o,Rl0.o,Rl1.o,Rl2.o,Rl3.o,Rl4.o,Rl5.o,Rl6.o,go_sem]) rfl ⟨ac0,bi0,none,0,0,_,rfl,HV.o,deb.fresh_nil _ _,H9B.o⟩
     ·have d6:decide (te - pd - (t.ff+pq)<0)=false:=decide_eq_false h6;have HMS:Hid (Calls Tryz.prog 178 #[.slice pt lt ct,zI b.bo,zI (te - pd - (t.ff+pq))] w5 fun e w'=>tar.ThreePost w5 (tar.MostIs t.ts b.bo (te - pd - (t.ff+pq))) e w'):=tar.rmost pt lt ct t.ts b.bo _ w5 H6T.o htl;have HMM:Hid (tar.MayMost b.bo (te - pd - (t.ff+pq))):=⟨hbo,by omega,by omega⟩
      have HRH:Hid (tar.Right t.ts):=HRG;clear HRG;have qt0:w5.cell? ⟨w.heap.size+1,0,none⟩=some (.slice pt lt ct):=H6t.o.cell 0;have qt1:w5.cell? ⟨w.heap.size+1,1,none⟩=some (zI t.ff):=H6t.o.cell 1;have qn4:w5.cell? ⟨w3.heap.size,4,none⟩=some (zI b.bo):=H6n.o.cell 4;go_wp2_with fail;clear qt0 qt1 qn4;refine HMS.o.mono ?_;rintro e w7 ⟨u,pc,fm,rfl,hi7,hb7⟩;have H8d:=shN H6d hb7;have H8t:=shN H6t hb7;have H8r:=shN H6r hb7;have H8l:=shN H6l hb7;have H8n:=shN H6n hb7;have H8T:Hid (RowD w7 pt lt t.ts):=H6T.o.below hb7;have H8Z:Hid (deb.Fresh w7 W4.heap.size pz lz cz z):=H7Z.o.below hb7;have H8B:=shB H6B hb7;have hsw7:w5.heap.size≤w7.heap.size:=hb7.size;clear hb7 H6d H6t H6r H6l H6n H6T H7Z H6B;obtain ⟨rfl,hmo7,hpc⟩:=hi7.got HRH.o HMM.o;clear hi7 HMS;have hu0:=hmo7.1.1;have hu1:u≤2097151:=by have:=hmo7.1.2;unfold tar.Top at this;omega
      have hu2:b.bo+u≤10000000:=by have:=hmo7.1.2;unfold tar.Top at this;omega
      have hcb:=tar.cost_bd HRH.o b.bo (b.bo+u) hbo.1 (by omega) hu2;rw [← hpc] at hcb;have hpc1:pc≤te - pd - (t.ff+pq):=by rw [hpc];exact hmo7.2.1
      have hpc0:0≤pc:=by omega
      have HMO:Hid (tar.MostOf t.ts (rolled x m).bo (rest x t te m) u):=by show tar.MostOf _ _ _ _;rw [← HBR.o,← HRS.o];exact hmo7
      have HPC:Hid (pc=tar.cost t.ts (rolled x m).bo ((rolled x m).bo+u)):=by show _=_;rw [← HBR.o];exact hpc
      have HONE:Hid (∀ v,tar.MostOf t.ts (rolled x m).bo (rest x t te m) v→v=u):=fun v hv=>by
       have hbb:0≤(rolled x m).bo:=by rw [← HBR.o];exact hbo.1
       exact hv.one HRH.o hbb HMO.o
      clear hmo7 hpc hcb;by_cases h7:u=0
      ·have d7:(u == 0)=true:=by simpa using h7
       have HV:Hid (SellIs x t te m ac0 bi0 19):= .inr (.inl ⟨HRY.o,fun hh=>hh.2.2 (by rw [← h7];exact HMO.o),rfl,rfl,rfl⟩);clear h7
       go_wp2_with (first
        | (refine zql rfl rfl rfl rfl zqu51 (by simp [Value.oneCell']) H8r rfl ?_)
        | (refine zqw rfl rfl rfl H8d zqu51 ?_)
        | (refine zqw rfl rfl rfl H8t zqu24 ?_)
        | (refine zqw rfl rfl rfl H8r zqu51 ?_)
        | (refine zqw rfl rfl rfl H8l zqu68 ?_)
        | (refine zqw rfl rfl rfl H8n zqu51 ?_)
        | fail)
       intro w7a hU;have H9d:=shK hU H8d (by omega);have H9t:=shK hU H8t (by omega);have H9r:Hid (Blk w7a (w.heap.size+1+1) #[zI 0,zI 0,zI 0,zI 0,zI 0,zI 0,zS] 51):=hU.blk;have H9l:=shK hU H8l (by omega);have H9n:=shK hU H8n (by omega);have H9Z:Hid (deb.Fresh w7a W4.heap.size pz lz cz z):=fresh_updN H8Z.o hU (fun hn y hy=>by have f1:=H8Z.o.new hn y hy;have f2:=HUPZ.o hn y hy;omega);have H9B:=shV hU H8B (by omega);have hsw7a:w7a.heap.size=w7.heap.size:=hU.size;clear hU H8d H8t H8r H8l H8n H8T H8Z H8B
       go_wp2_with (first
        | (refine zql rfl rfl rfl rfl zqu68 (by simp [Value.oneCell']) H9l rfl ?_)
        | (refine zqw rfl rfl rfl H9d zqu51 ?_)
        | (refine zqw rfl rfl rfl H9t zqu24 ?_)
        | (refine zqw rfl rfl rfl H9r zqu51 ?_)
        | (refine zqw rfl rfl rfl H9l zqu68 ?_)
        | (refine zqw rfl rfl rfl H9n zqu51 ?_)
        | fail)
       intro w7ab hU;have H10d:=shK hU H9d (by omega);have H10t:=shK hU H9t (by omega);have H10r:=shK hU H9r (by omega);have H10l:Hid (Blk w7ab (w.heap.size+1+1+1) #[zI 0,zI 0,zI 0,zI 0,zI 0,zI 0,zI 0] 68):=hU.blk;have H10n:=shK hU H9n (by omega);have H10Z:Hid (deb.Fresh w7ab W4.heap.size pz lz cz z):=fresh_updN H9Z.o hU (fun hn y hy=>by have f1:=H9Z.o.new hn y hy;have f2:=HUPZ.o hn y hy;omega);have H10B:=shV hU H9B (by omega);have hsw7ab:w7ab.heap.size=w7a.heap.size:=hU.size;clear hU H9d H9t H9r H9l H9n H9Z H9B;obtain ⟨Rr0,Rr1,Rr2,Rr3,Rr4,Rr5,Rr6⟩:=shc7 H10r;obtain ⟨Rl0,Rl1,Rl2,Rl3,Rl4,Rl5,Rl6⟩:=shc7 H10l;go_wp2_with fail;exact bodyPost_ret (v:= .tuple #[.agg #[zI 0,zI 0,zI 0,zI 0,zI 0,zI 0,zS],.agg #[zI 0,zI 0,zI 0,zI 0,zI 0,zI 0,zI 0],zI 19]) (by simp [results,Tryz.results143,Rr0.o,Rr1.o,Rr2.o,Rr3.o,Rr4.o,Rr5.o,Rr6.o,Rl0.o,Rl1.o,Rl2.o,Rl3.o,Rl4.o,Rl5.o,Rl6.o,go_sem]) rfl ⟨ac0,bi0,none,0,0,_,rfl,HV.o,deb.fresh_nil _ _,H10B.o⟩
      ·have d7:(u == 0)=false:=by simpa using h7
       have HTE:Hid (TenOk x t te m):=⟨h5,by rw [← HRS.o];omega,fun hh=>h7 (HONE.o 0 hh).symm⟩
       by_cases h8:x.nx≤1048575
       ·have d8:decide (1048575<x.nx)=false:=decide_eq_false (by omega);clear h7;have qd2:w7.cell? ⟨w.heap.size,2,none⟩=some (zI x.nx):=H8d.o.cell 2
        go_wp2_with (first
         | (refine wp_letS rfl 49 _ _ rfl (w3.heap.size) 6 rfl pz lz cz rfl (by kernel_rfl) #[zI b.me,zI b.rv,zI b.nx,zI b.mo,zI b.bo,zI b.fr,.slice pr lr cr] 51 H8n.o (by simp) ?_)
         | (refine zqw rfl rfl rfl H8d zqu51 ?_)
         | (refine zqw rfl rfl rfl H8t zqu24 ?_)
         | (refine zqw rfl rfl rfl H8r zqu51 ?_)
         | (refine zqw rfl rfl rfl H8l zqu68 ?_)
         | (refine zqw rfl rfl rfl H8n zqu51 ?_)
         | fail)
        intro W8 hU;have H9d:=shK hU H8d (by omega);have H9t:=shK hU H8t (by omega);have H9r:=shK hU H8r (by omega);have H9l:=shK hU H8l (by omega);have H9n:Hid (Blk W8 (w3.heap.size) #[zI b.me,zI b.rv,zI b.nx,zI b.mo,zI b.bo,zI b.fr,.slice pz lz cz] 51):=hU.blk;have H9Z:Hid (deb.Fresh W8 W4.heap.size pz lz cz z):=fresh_updN H8Z.o hU (fun hn y hy=>by have f1:=H8Z.o.new hn y hy;have f2:=HUPZ.o hn y hy;omega);have H9B:=shV hU H8B (by omega);have hsW8:W8.heap.size=w7.heap.size:=hU.size;clear hU H8d H8t H8r H8l H8n H8Z H8B;clear qd2;have qn4:W8.cell? ⟨w3.heap.size,4,none⟩=some (zI b.bo):=H9n.o.cell 4
        go_wp2_with (first
         | (refine wp_let1 rfl 3 _ _ rfl (w3.heap.size) 4 rfl .i64 (b.bo+u) rfl (by kernel_rfl) #[zI b.me,zI b.rv,zI b.nx,zI b.mo,zI b.bo,zI b.fr,.slice pz lz cz] 51 H9n.o (by simp) ?_)
         | (refine zqw rfl rfl rfl H9d zqu51 ?_)
         | (refine zqw rfl rfl rfl H9t zqu24 ?_)
         | (refine zqw rfl rfl rfl H9r zqu51 ?_)
         | (refine zqw rfl rfl rfl H9l zqu68 ?_)
         | (refine zqw rfl rfl rfl H9n zqu51 ?_)
         | fail)
        intro W9 hU;have H10d:=shK hU H9d (by omega);have H10t:=shK hU H9t (by omega);have H10r:=shK hU H9r (by omega);have H10l:=shK hU H9l (by omega);have H10n:Hid (Blk W9 (w3.heap.size) #[zI b.me,zI b.rv,zI b.nx,zI b.mo,zI (b.bo+u),zI b.fr,.slice pz lz cz] 51):=hU.blk;have H10Z:Hid (deb.Fresh W9 W4.heap.size pz lz cz z):=fresh_updN H9Z.o hU (fun hn y hy=>by have f1:=H9Z.o.new hn y hy;have f2:=HUPZ.o hn y hy;omega);have H10B:=shV hU H9B (by omega);have hsW9:W9.heap.size=W8.heap.size:=hU.size;clear hU H9d H9t H9r H9l H9n H9Z H9B;clear qn4;have qd2:W9.cell? ⟨w.heap.size,2,none⟩=some (zI x.nx):=H10d.o.cell 2
        go_wp2_with (first
         | (refine wp_let1 rfl 3 _ _ rfl (w3.heap.size) 2 rfl .i64 (x.nx+1) rfl (by kernel_rfl) #[zI b.me,zI b.rv,zI b.nx,zI b.mo,zI (b.bo+u),zI b.fr,.slice pz lz cz] 51 H10n.o (by simp) ?_)
         | (refine zqw rfl rfl rfl H10d zqu51 ?_)
         | (refine zqw rfl rfl rfl H10t zqu24 ?_)
         | (refine zqw rfl rfl rfl H10r zqu51 ?_)
         | (refine zqw rfl rfl rfl H10l zqu68 ?_)
         | (refine zqw rfl rfl rfl H10n zqu51 ?_)
         | fail)
        intro WA hU;have H11d:=shK hU H10d (by omega);have H11t:=shK hU H10t (by omega);have H11r:=shK hU H10r (by omega);have H11l:=shK hU H10l (by omega);have H11n:Hid (Blk WA (w3.heap.size) #[zI b.me,zI b.rv,zI (x.nx+1),zI b.mo,zI (b.bo+u),zI b.fr,.slice pz lz cz] 51):=hU.blk;have H11Z:Hid (deb.Fresh WA W4.heap.size pz lz cz z):=fresh_updN H10Z.o hU (fun hn y hy=>by have f1:=H10Z.o.new hn y hy;have f2:=HUPZ.o hn y hy;omega);have H11B:=shV hU H10B (by omega);have hsWA:WA.heap.size=W9.heap.size:=hU.size;clear hU H10d H10t H10r H10l H10n H10Z H10B;clear qd2;have hwd:IntKind.i64.wrap (te - pd - (t.ff+pq) - pc)=te - pd - (t.ff+pq) - pc:=by rw [IntKind.wrap_i64];omega
        go_upto_region 25 with fail
        refine wp_region_held_drew (S:=fun v=>Blk v (w3.heap.size) #[zI b.me,zI b.rv,zI (x.nx+1),zI b.mo,zI (b.bo+u),zI b.fr,.slice pz lz cz] 51∧Blk v (w.heap.size) #[zI x.me,zI x.rv,zI x.nx,zI x.mo,zI x.bo,zI x.fr,.slice p len cap] 51) (by kernel_rfl) ⟨Blk.drew H11n.o 1,Blk.drew H11d.o 1⟩ (fun hHeld=>?_);refine zqt 0 111 (.agg #[zI b.me,zI b.rv,zI (x.nx+1),zI b.mo,zI (b.bo+u),zI b.fr,.slice pz lz cz]) rfl rfl (by kernel_rfl) zid (Or.inl ⟨by rfl,fun v hv=>by have g0:=hv.1.cell 0;have g1:=hv.1.cell 1;have g2:=hv.1.cell 2;have g3:=hv.1.cell 3;have g4:=hv.1.cell 4;have g5:=hv.1.cell 5;have g6:=hv.1.cell 6;clear hv;go_simp⟩) hHeld ?_;simp only [zq];refine zqs 1 112 (.pointer (some ⟨w.heap.size,2,none⟩)) rfl rfl (by kernel_rfl) zid rfl (fun v hv=>by clear hv;go_simp) hHeld ?_;simp only [zq];refine zqt 2 113 (zI x.nx) rfl rfl (by kernel_rfl) zid (Or.inl ⟨by rfl,fun v hv=>by have g:=hv.2.cell 2;clear hv;go_simp⟩) hHeld ?_;simp only [zq];refine zqs 3 114 (zI te) rfl rfl (by kernel_rfl) zid rfl (fun v hv=>by clear hv;go_simp) hHeld ?_;simp only [zq];refine zqs 4 115 (zI pd) rfl rfl (by kernel_rfl) zid rfl (fun v hv=>by clear hv;go_simp) hHeld ?_;simp only [zq];refine zqs 5 116 (zI (t.ff+pq)) rfl rfl (by kernel_rfl) zid rfl (fun v hv=>by clear hv;go_simp) hHeld ?_;simp only [zq];refine zqs 6 117 (zI pc) rfl rfl (by kernel_rfl) zid rfl (fun v hv=>by clear hv;go_simp) hHeld ?_;simp only [zq];refine zqs 7 118 (zI (te - pd - (t.ff+pq))) rfl rfl (by kernel_rfl) zid rfl (fun v hv=>by clear hv;go_simp) hHeld ?_;simp only [zq];refine zqs 8 119 (zI pc) rfl rfl (by kernel_rfl) zid rfl (fun v hv=>by clear hv;go_simp) hHeld ?_;simp only [zq];refine zqs 9 120 (zI ((te - pd - (t.ff+pq)) - pc)) rfl rfl (by kernel_rfl) zid rfl (fun v hv=>by clear hv;go_simp) hHeld ?_;simp only [zq];refine zqs 10 121 (zI u) rfl rfl (by kernel_rfl) zid rfl (fun v hv=>by clear hv;go_simp) hHeld ?_;simp only [zq]
        refine zqs 11 122 (.agg #[zI x.nx,zI te,zI pd,zI (t.ff+pq),zI pc,zI ((te - pd - (t.ff+pq)) - pc),zI u]) rfl rfl (by kernel_rfl) zid rfl (fun v hv=>by clear hv;go_simp) hHeld ?_;simp only [zq];refine zqo 12 (by kernel_rfl) rfl (fun K hK=>?_);rw [if_pos (by rfl)];refine wp_letOp 51 _ _ rfl (w.heap.size+1+1) rfl #[zI b.me,zI b.rv,zI (x.nx+1),zI b.mo,zI (b.bo+u),zI b.fr,.slice pz lz cz] rfl (by kernel_rfl) (by simp [Value.oneCell']) #[zI 0,zI 0,zI 0,zI 0,zI 0,zI 0,zS] 51 (Blk.drew H11r.o 1) rfl rfl ?_;intro V1 hU;have H12d:Hid (Blk V1 (w.heap.size) #[zI x.me,zI x.rv,zI x.nx,zI x.mo,zI x.bo,zI x.fr,.slice p len cap] 51):=hU.keep (Blk.drew H11d.o 1) (by omega);have H12t:Hid (Blk V1 (w.heap.size+1) #[.slice pt lt ct,zI t.ff,zI t.fb,zI t.db,zI t.al] 24):=hU.keep (Blk.drew H11t.o 1) (by omega);have H12r:Hid (Blk V1 (w.heap.size+1+1) #[zI b.me,zI b.rv,zI (x.nx+1),zI b.mo,zI (b.bo+u),zI b.fr,.slice pz lz cz] 51):=hU.blk;have H12l:Hid (Blk V1 (w.heap.size+1+1+1) #[zI 0,zI 0,zI 0,zI 0,zI 0,zI 0,zI 0] 68):=hU.keep (Blk.drew H11l.o 1) (by omega);have H12n:Hid (Blk V1 (w3.heap.size) #[zI b.me,zI b.rv,zI (x.nx+1),zI b.mo,zI (b.bo+u),zI b.fr,.slice pz lz cz] 51):=hU.keep (Blk.drew H11n.o 1) (by omega);have H12Z:Hid (deb.Fresh V1 W4.heap.size pz lz cz z):=fresh_updN (fresh_drew H11Z.o) hU (fun hn y hy=>by have f1:=H11Z.o.new hn y hy;have f2:=HUPZ.o hn y hy;omega);have H12B:Hid (Below w.heap.size w V1):=hU.bel _ _ (by omega) H11B.o.drew;clear hU H11d H11t H11r H11l H11n H11Z H11B;refine hK.o _ _ ⟨H12n.o,H12d.o⟩ (fun hHeld=>?_);clear hK K;refine zqo 13 (by kernel_rfl) rfl (fun K hK=>?_);rw [if_pos (by rfl)];refine wp_letOp 68 _ _ rfl (w.heap.size+1+1+1) rfl #[zI x.nx,zI te,zI pd,zI (t.ff+pq),zI pc,zI ((te - pd - (t.ff+pq)) - pc),zI u] rfl (by kernel_rfl) (by simp [Value.oneCell']) #[zI 0,zI 0,zI 0,zI 0,zI 0,zI 0,zI 0] 68 H12l.o rfl rfl ?_
        intro V2 hU;have H13d:=shK hU H12d (by omega);have H13t:=shK hU H12t (by omega);have H13r:=shK hU H12r (by omega);have H13l:Hid (Blk V2 (w.heap.size+1+1+1) #[zI x.nx,zI te,zI pd,zI (t.ff+pq),zI pc,zI ((te - pd - (t.ff+pq)) - pc),zI u] 68):=hU.blk;have H13n:=shK hU H12n (by omega);have H13Z:Hid (deb.Fresh V2 W4.heap.size pz lz cz z):=fresh_updN H12Z.o hU (fun hn y hy=>by have f1:=H12Z.o.new hn y hy;have f2:=HUPZ.o hn y hy;omega);have H13B:=shV hU H12B (by omega);clear hU H12d H12t H12r H12l H12n H12Z H12B;refine hK.o _ _ ⟨H13n.o,H13d.o⟩ (fun hHeld=>?_);clear hK K;refine zqs 14 10 (zI 0) rfl rfl (by kernel_rfl) zid rfl (fun v hv=>by clear hv;go_simp) hHeld ?_;simp only [zq];refine wpAnyH_done (by kernel_rfl) ?_ _;clear hHeld
        have HSV:Hid (⟨b.me,b.rv,x.nx+1,b.mo,b.bo+u,b.fr,z⟩=sold x t te m u):=by
         show _=_;unfold sold;rw [HZV.o,← HBR.o,HBS.o.1,HBS.o.2.1,HBS.o.2.2.2.1,HBS.o.2.2.2.2]
        have HBV:Hid (⟨x.nx,te,pd,(t.ff+pq),pc,(te - pd - (t.ff+pq)) - pc,u⟩=bill x t te m u):=by
         show _=_;unfold bill;rw [← HPC.o,← HRS.o,← HPD.o,← HFE.o]
        obtain ⟨Rr0,Rr1,Rr2,Rr3,Rr4,Rr5,Rr6⟩:=shc7 H13r;obtain ⟨Rl0,Rl1,Rl2,Rl3,Rl4,Rl5,Rl6⟩:=shc7 H13l;go_wp2_with fail;exact bodyPost_ret (v:= .tuple #[.agg #[zI b.me,zI b.rv,zI (x.nx+1),zI b.mo,zI (b.bo+u),zI b.fr,.slice pz lz cz],.agg #[zI x.nx,zI te,zI pd,zI (t.ff+pq),zI pc,zI ((te - pd - (t.ff+pq)) - pc),zI u],zI 0]) (by simp [results,Tryz.results143,Rr0.o,Rr1.o,Rr2.o,Rr3.o,Rr4.o,Rr5.o,Rr6.o,Rl0.o,Rl1.o,Rl2.o,Rl3.o,Rl4.o,Rl5.o,Rl6.o,go_sem]) rfl ⟨⟨b.me,b.rv,x.nx+1,b.mo,b.bo+u,b.fr,z⟩,⟨x.nx,te,pd,(t.ff+pq),pc,(te - pd - (t.ff+pq)) - pc,u⟩,pz,lz,cz,_,rfl,.inr (.inr (.inr ⟨HRY.o,HTE.o,h8,rfl,u,HMO.o,HSV.o,HBV.o⟩)),H13Z.o.low (by omega),H13B.o⟩
       ·have d8:decide (1048575<x.nx)=true:=decide_eq_true (by omega);have HV:Hid (SellIs x t te m ac0 bi0 20):= .inr (.inr (.inl ⟨HRY.o,HTE.o,h8,rfl,rfl,rfl⟩));clear h7 h8;have qd2:w7.cell? ⟨w.heap.size,2,none⟩=some (zI x.nx):=H8d.o.cell 2
        go_wp2_with (first
         | (refine zql rfl rfl rfl rfl zqu51 (by simp [Value.oneCell']) H8r rfl ?_)
         | (refine zqw rfl rfl rfl H8d zqu51 ?_)
         | (refine zqw rfl rfl rfl H8t zqu24 ?_)
         | (refine zqw rfl rfl rfl H8r zqu51 ?_)
         | (refine zqw rfl rfl rfl H8l zqu68 ?_)
         | (refine zqw rfl rfl rfl H8n zqu51 ?_)
         | fail)
        intro w7a hU;have H9d:=shK hU H8d (by omega);have H9t:=shK hU H8t (by omega);have H9r:Hid (Blk w7a (w.heap.size+1+1) #[zI 0,zI 0,zI 0,zI 0,zI 0,zI 0,zS] 51):=hU.blk;have H9l:=shK hU H8l (by omega);have H9n:=shK hU H8n (by omega);have H9Z:Hid (deb.Fresh w7a W4.heap.size pz lz cz z):=fresh_updN H8Z.o hU (fun hn y hy=>by have f1:=H8Z.o.new hn y hy;have f2:=HUPZ.o hn y hy;omega);have H9B:=shV hU H8B (by omega);have hsw7a:w7a.heap.size=w7.heap.size:=hU.size;clear hU H8d H8t H8r H8l H8n H8T H8Z H8B
        go_wp2_with (first
         | (refine zql rfl rfl rfl rfl zqu68 (by simp [Value.oneCell']) H9l rfl ?_)
         | (refine zqw rfl rfl rfl H9d zqu51 ?_)
         | (refine zqw rfl rfl rfl H9t zqu24 ?_)
         | (refine zqw rfl rfl rfl H9r zqu51 ?_)
         | (refine zqw rfl rfl rfl H9l zqu68 ?_)
         | (refine zqw rfl rfl rfl H9n zqu51 ?_)
         | fail)
        intro w7ab hU;have H10d:=shK hU H9d (by omega);have H10t:=shK hU H9t (by omega);have H10r:=shK hU H9r (by omega);have H10l:Hid (Blk w7ab (w.heap.size+1+1+1) #[zI 0,zI 0,zI 0,zI 0,zI 0,zI 0,zI 0] 68):=hU.blk;have H10n:=shK hU H9n (by omega);have H10Z:Hid (deb.Fresh w7ab W4.heap.size pz lz cz z):=fresh_updN H9Z.o hU (fun hn y hy=>by have f1:=H9Z.o.new hn y hy;have f2:=HUPZ.o hn y hy;omega);have H10B:=shV hU H9B (by omega);have hsw7ab:w7ab.heap.size=w7a.heap.size:=hU.size;clear hU H9d H9t H9r H9l H9n H9Z H9B;obtain ⟨Rr0,Rr1,Rr2,Rr3,Rr4,Rr5,Rr6⟩:=shc7 H10r;obtain ⟨Rl0,Rl1,Rl2,Rl3,Rl4,Rl5,Rl6⟩:=shc7 H10l;go_wp2_with fail;exact bodyPost_ret (v:= .tuple #[.agg #[zI 0,zI 0,zI 0,zI 0,zI 0,zI 0,zS],.agg #[zI 0,zI 0,zI 0,zI 0,zI 0,zI 0,zI 0],zI 20]) (by simp [results,Tryz.results143,Rr0.o,Rr1.o,Rr2.o,Rr3.o,Rr4.o,Rr5.o,Rr6.o,Rl0.o,Rl1.o,Rl2.o,Rl3.o,Rl4.o,Rl5.o,Rl6.o,go_sem]) rfl ⟨ac0,bi0,none,0,0,_,rfl,HV.o,deb.fresh_nil _ _,H10B.o⟩
    ·rw [decide_eq_false h5] at HIT;have HV:Hid (SellIs x t te m ac0 bi0 19):= .inr (.inl ⟨HRY.o,fun hh=>h5 hh.1,rfl,rfl,rfl⟩);clear h5
     go_wp2_with (first
      | fail)
     refine (HIT.o _).mono ?_;rintro e wz ⟨rfl,hwz⟩;obtain rfl:W4=wz:=hwz.symm
     go_wp2_with (first
      | (refine zql rfl rfl rfl rfl zqu51 (by simp [Value.oneCell']) H5r rfl ?_)
      | (refine zqw rfl rfl rfl H5d zqu51 ?_)
      | (refine zqw rfl rfl rfl H5t zqu24 ?_)
      | (refine zqw rfl rfl rfl H5r zqu51 ?_)
      | (refine zqw rfl rfl rfl H5l zqu68 ?_)
      | (refine zqw rfl rfl rfl H5n zqu51 ?_)
      | fail)
     intro W4a hU;have H6d:=shK hU H5d (by omega);have H6t:=shK hU H5t (by omega);have H6r:Hid (Blk W4a (w.heap.size+1+1) #[zI 0,zI 0,zI 0,zI 0,zI 0,zI 0,zS] 51):=hU.blk;have H6l:=shK hU H5l (by omega);have H6n:=shK hU H5n (by omega);have H6F:Hid (deb.Fresh W4a w2.heap.size pr lr cr b.ds):=fresh_updN H5F.o hU (fun hn y hy=>by have f1:=H5F.o.new hn y hy;have f2:=HUPF.o hn y hy;omega);have H6B:=shV hU H5B (by omega);have hsW4a:W4a.heap.size=W4.heap.size:=hU.size;clear hU H5d H5t H5r H5l H5n H5T H5F H5B
     go_wp2_with (first
      | (refine zql rfl rfl rfl rfl zqu68 (by simp [Value.oneCell']) H6l rfl ?_)
      | (refine zqw rfl rfl rfl H6d zqu51 ?_)
      | (refine zqw rfl rfl rfl H6t zqu24 ?_)
      | (refine zqw rfl rfl rfl H6r zqu51 ?_)
      | (refine zqw rfl rfl rfl H6l zqu68 ?_)
      | (refine zqw rfl rfl rfl H6n zqu51 ?_)
      | fail)
     intro W4ab hU;have H7d:=shK hU H6d (by omega);have H7t:=shK hU H6t (by omega);have H7r:=shK hU H6r (by omega);have H7l:Hid (Blk W4ab (w.heap.size+1+1+1) #[zI 0,zI 0,zI 0,zI 0,zI 0,zI 0,zI 0] 68):=hU.blk;have H7n:=shK hU H6n (by omega);have H7F:Hid (deb.Fresh W4ab w2.heap.size pr lr cr b.ds):=fresh_updN H6F.o hU (fun hn y hy=>by have f1:=H6F.o.new hn y hy;have f2:=HUPF.o hn y hy;omega);have H7B:=shV hU H6B (by omega);have hsW4ab:W4ab.heap.size=W4a.heap.size:=hU.size;clear hU H6d H6t H6r H6l H6n H6F H6B;obtain ⟨Rr0,Rr1,Rr2,Rr3,Rr4,Rr5,Rr6⟩:=shc7 H7r;obtain ⟨Rl0,Rl1,Rl2,Rl3,Rl4,Rl5,Rl6⟩:=shc7 H7l;go_wp2_with fail;exact bodyPost_ret (v:= .tuple #[.agg #[zI 0,zI 0,zI 0,zI 0,zI 0,zI 0,zS],.agg #[zI 0,zI 0,zI 0,zI 0,zI 0,zI 0,zI 0],zI 19]) (by simp [results,Tryz.results143,Rr0.o,Rr1.o,Rr2.o,Rr3.o,Rr4.o,Rr5.o,Rr6.o,Rl0.o,Rl1.o,Rl2.o,Rl3.o,Rl4.o,Rl5.o,Rl6.o,go_sem]) rfl ⟨ac0,bi0,none,0,0,_,rfl,HV.o,deb.fresh_nil _ _,H7B.o⟩
   ·have hne:(fr != 0)=true:=by simpa using h4
    have HV:Hid (Refused x t m fr):=by
     rcases hi3 with ⟨q,_⟩ | ⟨_,q,r,_⟩ | ⟨_,_,_,r⟩
     ·exact absurd HM.o q
     ·exact .inr (.inr ⟨HM.o,HT.o,q,r⟩)
     ·exact absurd r h4
    clear hi3 h4;obtain ⟨W4,HWW,H5n,HBB,hsW4⟩:=sh1 w3 #[zI b.me,zI b.rv,zI b.nx,zI b.mo,zI b.bo,zI b.fr,.slice pr lr cr] 51;have H5d:=shN H3d HBB.o;have H5t:=shN H3t HBB.o;have H5r:=shN H3r HBB.o;have H5l:=shN H3l HBB.o;have H5R:Hid (RowD W4 p len x.ds):=H3R.o.below HBB.o;have H5T:Hid (RowD W4 pt lt t.ts):=H3T.o.below HBB.o;have H5F:Hid (deb.Fresh W4 w2.heap.size pr lr cr b.ds):=H4F.o.below HBB.o;have H5B:=shB H3B HBB.o;clear H3d H3t H3r H3l H3R H3T H4F H3B;go_upto_region 7 with fail
    rw [HWW.o];clear HWW HBB
    go_wp2_with (first
     | (refine zql rfl rfl rfl rfl zqu51 (by simp [Value.oneCell']) H5r rfl ?_)
     | (refine zqw rfl rfl rfl H5d zqu51 ?_)
     | (refine zqw rfl rfl rfl H5t zqu24 ?_)
     | (refine zqw rfl rfl rfl H5r zqu51 ?_)
     | (refine zqw rfl rfl rfl H5l zqu68 ?_)
     | (refine zqw rfl rfl rfl H5n zqu51 ?_)
     | fail)
    intro W4a hU;have H6d:=shK hU H5d (by omega);have H6t:=shK hU H5t (by omega);have H6r:Hid (Blk W4a (w.heap.size+1+1) #[zI 0,zI 0,zI 0,zI 0,zI 0,zI 0,zS] 51):=hU.blk;have H6l:=shK hU H5l (by omega);have H6n:=shK hU H5n (by omega);have H6F:Hid (deb.Fresh W4a w2.heap.size pr lr cr b.ds):=fresh_updN H5F.o hU (fun hn y hy=>by have f1:=H5F.o.new hn y hy;have f2:=HUPF.o hn y hy;omega);have H6B:=shV hU H5B (by omega);have hsW4a:W4a.heap.size=W4.heap.size:=hU.size;clear hU H5d H5t H5r H5l H5n H5R H5T H5F H5B
    go_wp2_with (first
     | (refine zql rfl rfl rfl rfl zqu68 (by simp [Value.oneCell']) H6l rfl ?_)
     | (refine zqw rfl rfl rfl H6d zqu51 ?_)
     | (refine zqw rfl rfl rfl H6t zqu24 ?_)
     | (refine zqw rfl rfl rfl H6r zqu51 ?_)
     | (refine zqw rfl rfl rfl H6l zqu68 ?_)
     | (refine zqw rfl rfl rfl H6n zqu51 ?_)
     | fail)
    intro W4ab hU;have H7d:=shK hU H6d (by omega);have H7t:=shK hU H6t (by omega);have H7r:=shK hU H6r (by omega);have H7l:Hid (Blk W4ab (w.heap.size+1+1+1) #[zI 0,zI 0,zI 0,zI 0,zI 0,zI 0,zI 0] 68):=hU.blk;have H7n:=shK hU H6n (by omega);have H7F:Hid (deb.Fresh W4ab w2.heap.size pr lr cr b.ds):=fresh_updN H6F.o hU (fun hn y hy=>by have f1:=H6F.o.new hn y hy;have f2:=HUPF.o hn y hy;omega);have H7B:=shV hU H6B (by omega);have hsW4ab:W4ab.heap.size=W4a.heap.size:=hU.size;clear hU H6d H6t H6r H6l H6n H6F H6B;obtain ⟨Rr0,Rr1,Rr2,Rr3,Rr4,Rr5,Rr6⟩:=shc7 H7r;obtain ⟨Rl0,Rl1,Rl2,Rl3,Rl4,Rl5,Rl6⟩:=shc7 H7l;go_wp2_with fail;exact bodyPost_ret (v:= .tuple #[.agg #[zI 0,zI 0,zI 0,zI 0,zI 0,zI 0,zS],.agg #[zI 0,zI 0,zI 0,zI 0,zI 0,zI 0,zI 0],zI fr]) (by simp [results,Tryz.results143,Rr0.o,Rr1.o,Rr2.o,Rr3.o,Rr4.o,Rr5.o,Rr6.o,Rl0.o,Rl1.o,Rl2.o,Rl3.o,Rl4.o,Rl5.o,Rl6.o,go_sem]) rfl ⟨ac0,bi0,none,0,0,_,rfl,.inl ⟨HV.o,rfl,rfl⟩,deb.fresh_nil _ _,H7B.o⟩
  ·have hne:(ft != 0)=true:=by simpa using h0
   have HV:Hid (Refused x t m ft):= .inr (.inl ⟨HM.o,fun h=>h0 (hft.ok.2 h),hft⟩);clear hft h0
   go_wp2_with (first
    | (refine zql rfl rfl rfl rfl zqu51 (by simp [Value.oneCell']) H2r rfl ?_)
    | (refine zqw rfl rfl rfl H2d zqu51 ?_)
    | (refine zqw rfl rfl rfl H2t zqu24 ?_)
    | (refine zqw rfl rfl rfl H2r zqu51 ?_)
    | (refine zqw rfl rfl rfl H2l zqu68 ?_)
    | fail)
   intro w2a hU;have H3d:=shK hU H2d (by omega);have H3t:=shK hU H2t (by omega);have H3r:Hid (Blk w2a (w.heap.size+1+1) #[zI 0,zI 0,zI 0,zI 0,zI 0,zI 0,zS] 51):=hU.blk;have H3l:=shK hU H2l (by omega);have H3B:=shV hU H2B (by omega);have hsw2a:w2a.heap.size=w2.heap.size:=hU.size;clear hU H2d H2t H2r H2l H2R H2T H2B
   go_wp2_with (first
    | (refine zql rfl rfl rfl rfl zqu68 (by simp [Value.oneCell']) H3l rfl ?_)
    | (refine zqw rfl rfl rfl H3d zqu51 ?_)
    | (refine zqw rfl rfl rfl H3t zqu24 ?_)
    | (refine zqw rfl rfl rfl H3r zqu51 ?_)
    | (refine zqw rfl rfl rfl H3l zqu68 ?_)
    | fail)
   intro w2ab hU;have H4d:=shK hU H3d (by omega);have H4t:=shK hU H3t (by omega);have H4r:=shK hU H3r (by omega);have H4l:Hid (Blk w2ab (w.heap.size+1+1+1) #[zI 0,zI 0,zI 0,zI 0,zI 0,zI 0,zI 0] 68):=hU.blk;have H4B:=shV hU H3B (by omega);have hsw2ab:w2ab.heap.size=w2a.heap.size:=hU.size;clear hU H3d H3t H3r H3l H3B;obtain ⟨Rr0,Rr1,Rr2,Rr3,Rr4,Rr5,Rr6⟩:=shc7 H4r;obtain ⟨Rl0,Rl1,Rl2,Rl3,Rl4,Rl5,Rl6⟩:=shc7 H4l;go_wp2_with fail;exact bodyPost_ret (v:= .tuple #[.agg #[zI 0,zI 0,zI 0,zI 0,zI 0,zI 0,zS],.agg #[zI 0,zI 0,zI 0,zI 0,zI 0,zI 0,zI 0],zI ft]) (by simp [results,Tryz.results143,Rr0.o,Rr1.o,Rr2.o,Rr3.o,Rr4.o,Rr5.o,Rr6.o,Rl0.o,Rl1.o,Rl2.o,Rl3.o,Rl4.o,Rl5.o,Rl6.o,go_sem]) rfl ⟨ac0,bi0,none,0,0,_,rfl,.inl ⟨HV.o,rfl,rfl⟩,deb.fresh_nil _ _,H4B.o⟩
 ·have HM:Hid (¬ AMay x):=hm;obtain ⟨W0,HWW,H0d,H0t,H0r,H0l,H0B,hs0⟩:=sh4 w #[zI x.me,zI x.rv,zI x.nx,zI x.mo,zI x.bo,zI x.fr,.slice p len cap] 51 #[.slice pt lt ct,zI t.ff,zI t.fb,zI t.db,zI t.al] 24 #[zI 0,zI 0,zI 0,zI 0,zI 0,zI 0,zS] 51 #[zI 0,zI 0,zI 0,zI 0,zI 0,zI 0,zI 0] 68;have H0R:Hid (RowD W0 p len x.ds):=h.below H0B.o;have H0T:Hid (RowD W0 pt lt t.ts):=ht.below H0B.o;go_enter Tryz.func143,Tryz.ntmps143;go_upto_region 1 with fail
  rw [HWW.o];clear HWW;have HAM:Hid (Calls Tryz.prog 173 #[.agg #[zI x.me,zI x.rv,zI x.nx,zI x.mo,zI x.bo,zI x.fr,.slice p len cap]] W0 fun e w'=>e = .returned (.bool false)∧Below W0.heap.size W0 w'):=ranot x p len cap _ H0R.o hl hm
  go_wp2_with (first
   | (refine zqw rfl rfl rfl H0d zqu51 ?_)
   | (refine zqw rfl rfl rfl H0t zqu24 ?_)
   | (refine zqw rfl rfl rfl H0r zqu51 ?_)
   | (refine zqw rfl rfl rfl H0l zqu68 ?_)
   | fail)
  refine HAM.o.mono ?_;rintro e w1 ⟨rfl,hb1⟩;have H1d:=shN H0d hb1;have H1t:=shN H0t hb1;have H1r:=shN H0r hb1;have H1l:=shN H0l hb1;have H1R:Hid (RowD w1 p len x.ds):=H0R.o.below hb1;have H1T:Hid (RowD w1 pt lt t.ts):=H0T.o.below hb1;have H1B:=shB H0B hb1;have hsw1:W0.heap.size≤w1.heap.size:=hb1.size;clear hb1 H0d H0t H0r H0l H0R H0T H0B;clear HAM
  go_wp2_with (first
   | (refine zql rfl rfl rfl rfl zqu51 (by simp [Value.oneCell']) H1r rfl ?_)
   | (refine zqw rfl rfl rfl H1d zqu51 ?_)
   | (refine zqw rfl rfl rfl H1t zqu24 ?_)
   | (refine zqw rfl rfl rfl H1r zqu51 ?_)
   | (refine zqw rfl rfl rfl H1l zqu68 ?_)
   | fail)
  intro w1a hU;have H2d:=shK hU H1d (by omega);have H2t:=shK hU H1t (by omega);have H2r:Hid (Blk w1a (w.heap.size+1+1) #[zI 0,zI 0,zI 0,zI 0,zI 0,zI 0,zS] 51):=hU.blk;have H2l:=shK hU H1l (by omega);have H2B:=shV hU H1B (by omega);have hsw1a:w1a.heap.size=w1.heap.size:=hU.size;clear hU H1d H1t H1r H1l H1R H1T H1B
  go_wp2_with (first
   | (refine zql rfl rfl rfl rfl zqu68 (by simp [Value.oneCell']) H2l rfl ?_)
   | (refine zqw rfl rfl rfl H2d zqu51 ?_)
   | (refine zqw rfl rfl rfl H2t zqu24 ?_)
   | (refine zqw rfl rfl rfl H2r zqu51 ?_)
   | (refine zqw rfl rfl rfl H2l zqu68 ?_)
   | fail)
  intro w1ab hU;have H3d:=shK hU H2d (by omega);have H3t:=shK hU H2t (by omega);have H3r:=shK hU H2r (by omega);have H3l:Hid (Blk w1ab (w.heap.size+1+1+1) #[zI 0,zI 0,zI 0,zI 0,zI 0,zI 0,zI 0] 68):=hU.blk;have H3B:=shV hU H2B (by omega);have hsw1ab:w1ab.heap.size=w1a.heap.size:=hU.size;clear hU H2d H2t H2r H2l H2B;obtain ⟨Rr0,Rr1,Rr2,Rr3,Rr4,Rr5,Rr6⟩:=shc7 H3r;obtain ⟨Rl0,Rl1,Rl2,Rl3,Rl4,Rl5,Rl6⟩:=shc7 H3l;go_wp2_with fail;exact bodyPost_ret (v:= .tuple #[.agg #[zI 0,zI 0,zI 0,zI 0,zI 0,zI 0,zS],.agg #[zI 0,zI 0,zI 0,zI 0,zI 0,zI 0,zI 0],zI 5]) (by simp [results,Tryz.results143,Rr0.o,Rr1.o,Rr2.o,Rr3.o,Rr4.o,Rr5.o,Rr6.o,Rl0.o,Rl1.o,Rl2.o,Rl3.o,Rl4.o,Rl5.o,Rl6.o,go_sem]) rfl ⟨ac0,bi0,none,0,0,_,rfl,.inl ⟨.inl ⟨HM.o,rfl⟩,rfl,rfl⟩,deb.fresh_nil _ _,H3B.o⟩
end acc
end Go.Proofs.YtnpblpbohcegoaaGreatDoor
