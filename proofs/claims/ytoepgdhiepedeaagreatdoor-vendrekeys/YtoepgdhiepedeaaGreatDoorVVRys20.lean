import Derived.Test.YtoepgdhiepedeaaGreatDoorVVRys13
import Derived.Test.YtoepgdhiepedeaaGreatDoorVVRys16
set_option linter.unusedVariables false
set_option linter.unusedSimpArgs false
set_option maxHeartbeats 4000000
set_option maxRecDepth 100000
namespace Go.Proofs.YtoepgdhiepedeaaGreatDoor
namespace acc
open tar (Du du0 Came RowD Ld PairT)
open Go.RowKit
theorem rgranted(x:Ac)(p:Option Addr)(len cap:Nat)(t:Tm)(pt:Option Addr)(lt ct:Nat)(m:Int)(w:World)(h:RowD w p len x.ds)(hl:len≤maxLen)(ht:RowD w pt lt t.ts)(htl:lt≤maxLen):Calls Tryz.prog 23 #[.agg #[zI x.me,zI x.rv,zI x.nx,zI x.mo,zI x.bo,zI x.fr,.slice p len cap],.agg #[.slice pt lt ct,zI t.ff,zI t.fb,zI t.db,zI t.al],zI m] w λe w'=>BPost w (GrantIs x t m) e w':=by
 by_cases hm:AMay x
 ·have HM:=zh hm;have bs:=hm.2.2.2.1;have br:=hm.2.2.2.2.1;obtain⟨W0,N,aj,an,am,ak,M,bf⟩:=sh4 w #[zI x.me,zI x.rv,zI x.nx,zI x.mo,zI x.bo,zI x.fr,.slice p len cap] 55 #[.slice pt lt ct,zI t.ff,zI t.fb,zI t.db,zI t.al] 24 #[zI 0,zI 0,zI 0,zI 0,zI 0,zI 0,zS] 55 #[zI 0,zI 0,zI 0,zI 0,zI 0,zI 0,zI 0] 33;have a4:=zh (h.below M.o);have ai:=zh (ht.below M.o);go_enter Tryz.func23,Tryz.ntmps23;go_upto_region 1 with fail
  rw[N.o];have ay:Hid (zC 44 #[.agg #[zI x.me,zI x.rv,zI x.nx,zI x.mo,zI x.bo,zI x.fr,.slice p len cap]] W0 λe w'=>e=.returned (.bool true)∧zB W0 w'):=ramay x p len cap _ a4.o hl hm;go_wp2_with refine zw ?_;refine ay.o.mono ?_;rintro e w1 ⟨rfl,j⟩;obtain⟨aq,au,aD,ar⟩:=zn4 j aj an am ak;have aC:=zh (a4.o.below j);have ap:=zh (ai.o.below j);have ao:=shB M j;have aO:=j.size;clear j;clear hm;have ba:=zh (rterms t pt lt ct w1 ap.o htl);go_wp2_with refine zw ?_;refine ba.o.mono ?_;rintro e w2 ⟨ft,rfl,aa,a1⟩;obtain⟨ac,ad,aw,av⟩:=zn4 a1 aq au aD ar;have aE:=zh (aC.o.below a1);have aR:=zh (ap.o.below a1);have ab:=shB ao a1;have bk:=a1.size;clear a1;by_cases h0:ft=0
  ·subst h0;have HT:Hid (TRight t):=aa.ok.1 rfl;clear aa;have b9:=zh (rrolled x p len cap m w2 aE.o hl);go_wp2_with refine zw ?_;refine b9.o.mono ?_;rintro e w3 ⟨b,J,I,G,fr,rfl,af,aM,a2⟩;obtain⟨a5,a7,U,a6⟩:=zn4 a2 ac ad aw av;have aF:=zh (aE.o.below a2);have aG:=zh (aR.o.below a2);have T:=shB ab a2;have bl:=a2.size;clear a2;unfold Ac.v Ac.cs;have ax:=zh aM;have c:=zh (came_lt ax.o.came);clear aM;by_cases h4:fr=0
   ·subst h4
    have a3:RMay x m∧b=rolled x m:=by
     rcases af with⟨q,_⟩|⟨_,_,q,_⟩|⟨_,q,r,_⟩
     ·exact absurd HM.o q
     ·exact absurd rfl q.ne
     ·exact⟨q,r⟩
    have ae:Hid (Ready x t m):=⟨HM.o,HT.o,a3.1⟩
    have b7:=zh a3.2;have aA:=rolled_same x m;rw[← a3.2] at aA;have bb:=(rolled_may HM.o a3.1).2.2.2.2.2.1;rw[← a3.2] at bb;have az:=zh aA;clear a3 af aA;obtain⟨W4,N,a8,n,aN⟩:=sh1 w3 #[zI b.me,zI b.rv,zI b.nx,zI b.mo,zI b.bo,zI b.fr,.slice J I G] 55;obtain⟨l,u,aH,W⟩:=zn4 n.o a5 a7 U a6;have aV:=zh (aF.o.below n.o);have aW:=zh (aG.o.below n.o);have k:=zh (ax.o.below n.o);have V:=shB T n.o;go_upto_region 7 with fail
    rw[N.o];by_cases h5:t.al=0
    ·have d5:(t.al==0)=true:=by simpa using h5
     have HV:Hid (GrantIs x t m ac0 bi0 22):=.inr (.inl ⟨ae.o,h5,rfl,rfl,rfl⟩);clear h5;have ah:=zy4 u;go_wp2_with (first|refine zs ?_|refine zw ?_)
     intro O a;obtain⟨z,C,a9,L⟩:=zk4 a l u W a8;have B:=zyb a;have i:Hid (deb.Fresh O w2.heap.size J I G b.ds):=fresh_updN k.o a (λd y f=>by have f1:=k.o.new d y f;have f2:=c.o d y f;omega);have A:=zk a V;have Q:=a.size;clear a;go_wp2_with (first|refine zs ?_|refine zw ?_)
     intro s a;obtain⟨Y,a0,F,Z⟩:=zk4 a z C B L;have E:=zyb a;have X:Hid (deb.Fresh s w2.heap.size J I G b.ds):=fresh_updN i.o a (λd y f=>by have f1:=i.o.new d y f;have f2:=c.o d y f;omega);have D:=zk a A;have H:=a.size;clear a;go_wp2_with fail;exact zr (.tuple #[.agg #[zI 0,zI 0,zI 0,zI 0,zI 0,zI 0,zS],.agg #[zI 0,zI 0,zI 0,zI 0,zI 0,zI 0,zI 0],zI 22]) (by simp[results,Tryz.results23,scl7 F,scl7 E,go_sem]) ⟨ac0,bi0,none,0,0,_,rfl,HV.o,deb.fresh_nil _ _,D.o⟩
    ·have d5:(t.al==0)=false:=by simpa using h5
     by_cases h6:x.fr=m
     ·have d6:(x.fr==m)=true:=by simpa using h6
      have HV:Hid (GrantIs x t m ac0 bi0 21):=.inr (.inr (.inl ⟨ae.o,h5,h6,rfl,rfl,rfl⟩));clear h5 h6;have ah:=zy4 u;have aB:=zy5 l;go_wp2_with (first|refine zs ?_|refine zw ?_)
      intro O a;obtain⟨z,C,a9,L⟩:=zk4 a l u W a8;have B:=zyb a;have i:Hid (deb.Fresh O w2.heap.size J I G b.ds):=fresh_updN k.o a (λd y f=>by have f1:=k.o.new d y f;have f2:=c.o d y f;omega);have A:=zk a V;have Q:=a.size;clear a;go_wp2_with (first|refine zs ?_|refine zw ?_)
      intro s a;obtain⟨Y,a0,F,Z⟩:=zk4 a z C B L;have E:=zyb a;have X:Hid (deb.Fresh s w2.heap.size J I G b.ds):=fresh_updN i.o a (λd y f=>by have f1:=i.o.new d y f;have f2:=c.o d y f;omega);have D:=zk a A;have H:=a.size;clear a;go_wp2_with fail;exact zr (.tuple #[.agg #[zI 0,zI 0,zI 0,zI 0,zI 0,zI 0,zS],.agg #[zI 0,zI 0,zI 0,zI 0,zI 0,zI 0,zI 0],zI 21]) (by simp[results,Tryz.results23,scl7 F,scl7 E,go_sem]) ⟨ac0,bi0,none,0,0,_,rfl,HV.o,deb.fresh_nil _ _,D.o⟩
     ·have d6:(x.fr==m)=false:=by simpa using h6
      by_cases h7:x.nx≤1048575
      ·have d7:(x.nx==1048576)=false:=by simp;omega
       have ah:=zy4 u;have aB:=zy5 l;have ag:=zy2 l;go_wp2_with refine zl ?_;clear ah aB ag;intro W5 a;obtain⟨z,C,B,a9⟩:=zk4 a l u aH W;have L:=zyb a;have i:Hid (deb.Fresh W5 w2.heap.size J I G b.ds):=fresh_updN k.o a (λd y f=>by have f1:=k.o.new d y f;have f2:=c.o d y f;omega);have A:=zk a V;have bi:=a.size;clear a;have ag:=zy2 z;go_wp2_with (first|refine zl ?_|refine zw ?_)
       intro W6 a;obtain⟨Y,a0,F,E⟩:=zk4 a z C B a9;have Z:=zyb a;have X:Hid (deb.Fresh W6 w2.heap.size J I G b.ds):=fresh_updN i.o a (λd y f=>by have f1:=i.o.new d y f;have f2:=c.o d y f;omega);have D:=zk a A;have bj:=a.size;clear a;clear ag;go_upto_region 17 with fail
       refine wp_region_held_drew (S:=λv=>Blk v (w3.heap.size) #[zI b.me,zI b.rv,zI (x.nx+1),zI b.mo,zI b.bo,zI m,.slice J I G] 55∧Blk v (w.heap.size) #[zI x.me,zI x.rv,zI x.nx,zI x.mo,zI x.bo,zI x.fr,.slice p len cap] 55∧Blk v (w.heap.size+1) #[.slice pt lt ct,zI t.ff,zI t.fb,zI t.db,zI t.al] 24) (by kernel_rfl) ⟨Blk.drew Z.o 1,Blk.drew Y.o 1,Blk.drew a0.o 1⟩ (λP=>?_);refine zu' 0 (.agg #[zI b.me,zI b.rv,zI (x.nx+1),zI b.mo,zI b.bo,zI m,.slice J I G]) rfl rfl (Or.inl ⟨by rfl,λv R=>by have g0:=R.1.cell 0;have g1:=R.1.cell 1;have g2:=R.1.cell 2;have g3:=R.1.cell 3;have g4:=R.1.cell 4;have g5:=R.1.cell 5;have g6:=R.1.cell 6;clear R;go_simp⟩) ?_;refine zt' 1 (.pointer (some ⟨w.heap.size,2,none⟩)) ?_;refine zu' 2 (zI x.nx) rfl rfl (Or.inl ⟨by rfl,λv R=>by have g:=R.2.1.cell 2;clear R;go_simp⟩) ?_;refine zt' 3 (.pointer (some ⟨w.heap.size+1,4,none⟩)) ?_;refine zu' 4 (zI t.al) rfl rfl (Or.inl ⟨by rfl,λv R=>by have g:=R.2.2.cell 4;clear R;go_simp⟩) ?_;refine zt' 5 (.agg #[zI x.nx,zI 0,zI 0,zI 0,zI 0,zI 0,zI t.al]) ?_;refine zo 6 λK hK=>?_;rw[if_pos (by rfl)];refine wp_letOp 55 _ _ rfl (w.heap.size+1+1) rfl #[zI b.me,zI b.rv,zI (x.nx+1),zI b.mo,zI b.bo,zI m,.slice J I G] rfl (by kernel_rfl) (by simp[Value.oneCell']) #[zI 0,zI 0,zI 0,zI 0,zI 0,zI 0,zS] 55 (Blk.drew F.o 1) rfl rfl ?_;intro V1 a;have aJ:=zh (a.keep (Blk.drew Y.o 1) (by omega));have aL:=zh (a.keep (Blk.drew a0.o 1) (by omega));have aZ:=zyb a;have aY:=zh (a.keep (Blk.drew E.o 1) (by omega));have aK:=zh (a.keep (Blk.drew Z.o 1) (by omega));have aI:Hid (deb.Fresh V1 w2.heap.size J I G b.ds):=fresh_updN (fresh_drew X.o) a (λd y f=>by have f1:=X.o.new d y f;have f2:=c.o d y f;omega);have aX:Hid (zB w V1):=a.bel _ _ (by omega) D.o.drew;clear a;refine hK.o _ _ ⟨aK.o,aJ.o,aL.o⟩ (λP=>?_)
       clear hK K;refine zo 7 λK hK=>?_;rw[if_pos (by rfl)];refine wp_letOp 33 _ _ rfl (w.heap.size+1+1+1) rfl #[zI x.nx,zI 0,zI 0,zI 0,zI 0,zI 0,zI t.al] rfl (by kernel_rfl) (by simp[Value.oneCell']) #[zI 0,zI 0,zI 0,zI 0,zI 0,zI 0,zI 0] 33 aY.o rfl rfl ?_;intro V2 a;obtain⟨b2,b6,b5,b4⟩:=zk4 a aJ aL aZ aK;have b3:=zyb a;have b1:Hid (deb.Fresh V2 w2.heap.size J I G b.ds):=fresh_updN aI.o a (λd y f=>by have f1:=aI.o.new d y f;have f2:=c.o d y f;omega);have b0:=zk a aX;clear a;refine hK.o _ _ ⟨b4.o,b2.o,b6.o⟩ (λP=>?_);clear hK K;refine zt' 8 (zI 0) ?_;refine wpAnyH_done (by kernel_rfl) ?_ _;clear P
       have b8:Hid (⟨b.me,b.rv,x.nx+1,b.mo,b.bo,m,b.ds⟩=granted x m):=by
        show _=_;unfold granted;rw[← b7.o,az.o.1,az.o.2.1,az.o.2.2.2.1]
       go_wp2_with fail;exact zr (.tuple #[.agg #[zI b.me,zI b.rv,zI (x.nx+1),zI b.mo,zI b.bo,zI m,.slice J I G],.agg #[zI x.nx,zI 0,zI 0,zI 0,zI 0,zI 0,zI t.al],zI 0]) (by simp[results,Tryz.results23,scl7 b5,scl7 b3,go_sem]) ⟨⟨b.me,b.rv,x.nx+1,b.mo,b.bo,m,b.ds⟩,⟨x.nx,0,0,0,0,0,t.al⟩,J,I,G,_,rfl,.inr (.inr (.inr (.inr ⟨ae.o,h5,h6,h7,rfl,b8.o,rfl⟩))),b1.o.low (by omega),b0.o⟩
      ·have d7:(x.nx==1048576)=true:=by simp;omega
       have HV:Hid (GrantIs x t m ac0 bi0 20):=.inr (.inr (.inr (.inl ⟨ae.o,h5,h6,h7,rfl,rfl,rfl⟩)));clear h5 h6 h7;have ah:=zy4 u;have aB:=zy5 l;have ag:=zy2 l;go_wp2_with (first|refine zs ?_|refine zw ?_)
       intro O a;obtain⟨z,C,a9,L⟩:=zk4 a l u W a8;have B:=zyb a;have i:Hid (deb.Fresh O w2.heap.size J I G b.ds):=fresh_updN k.o a (λd y f=>by have f1:=k.o.new d y f;have f2:=c.o d y f;omega);have A:=zk a V;have Q:=a.size;clear a;go_wp2_with (first|refine zs ?_|refine zw ?_)
       intro s a;obtain⟨Y,a0,F,Z⟩:=zk4 a z C B L;have E:=zyb a;have X:Hid (deb.Fresh s w2.heap.size J I G b.ds):=fresh_updN i.o a (λd y f=>by have f1:=i.o.new d y f;have f2:=c.o d y f;omega);have D:=zk a A;have H:=a.size;clear a;go_wp2_with fail;exact zr (.tuple #[.agg #[zI 0,zI 0,zI 0,zI 0,zI 0,zI 0,zS],.agg #[zI 0,zI 0,zI 0,zI 0,zI 0,zI 0,zI 0],zI 20]) (by simp[results,Tryz.results23,scl7 F,scl7 E,go_sem]) ⟨ac0,bi0,none,0,0,_,rfl,HV.o,deb.fresh_nil _ _,D.o⟩
   ·have be:(fr != 0)=true:=by simpa using h4
    have HV:Hid (Refused x t m fr):=by
     rcases af with⟨q,_⟩|⟨_,q,r,_⟩|⟨_,_,_,r⟩
     ·exact absurd HM.o q
     ·exact .inr (.inr ⟨HM.o,HT.o,q,r⟩)
     ·exact absurd r h4
    clear af h4;obtain⟨W4,N,a8,n,aN⟩:=sh1 w3 #[zI b.me,zI b.rv,zI b.nx,zI b.mo,zI b.bo,zI b.fr,.slice J I G] 55;obtain⟨l,u,aH,W⟩:=zn4 n.o a5 a7 U a6;have aV:=zh (aF.o.below n.o);have aW:=zh (aG.o.below n.o);have k:=zh (ax.o.below n.o);have V:=shB T n.o;go_upto_region 7 with fail
    rw[N.o];go_wp2_with (first|refine zs ?_|refine zw ?_)
    intro O a;obtain⟨z,C,a9,L⟩:=zk4 a l u W a8;have B:=zyb a;have i:Hid (deb.Fresh O w2.heap.size J I G b.ds):=fresh_updN k.o a (λd y f=>by have f1:=k.o.new d y f;have f2:=c.o d y f;omega);have A:=zk a V;have Q:=a.size;clear a;go_wp2_with (first|refine zs ?_|refine zw ?_)
    intro s a;obtain⟨Y,a0,F,Z⟩:=zk4 a z C B L;have E:=zyb a;have X:Hid (deb.Fresh s w2.heap.size J I G b.ds):=fresh_updN i.o a (λd y f=>by have f1:=i.o.new d y f;have f2:=c.o d y f;omega);have D:=zk a A;have H:=a.size;clear a;go_wp2_with fail;exact zr (.tuple #[.agg #[zI 0,zI 0,zI 0,zI 0,zI 0,zI 0,zS],.agg #[zI 0,zI 0,zI 0,zI 0,zI 0,zI 0,zI 0],zI fr]) (by simp[results,Tryz.results23,scl7 F,scl7 E,go_sem]) ⟨ac0,bi0,none,0,0,_,rfl,.inl ⟨HV.o,rfl,rfl⟩,deb.fresh_nil _ _,D.o⟩
  ·have be:(ft != 0)=true:=by simpa using h0
   have HV:Hid (Refused x t m ft):=.inr (.inl ⟨HM.o,λh=>h0 (aa.ok.2 h),aa⟩);clear aa h0;go_wp2_with (first|refine zs ?_|refine zw ?_)
   intro bu a;obtain⟨a5,a7,a6⟩:=zk3 a ac ad av;have T:=zk a ab;have U:=zyb a;have bh:=a.size;clear a;go_wp2_with (first|refine zs ?_|refine zw ?_)
   intro bn a;obtain⟨bp,bq,aU⟩:=zk3 a a5 a7 U;have aS:=zk a T;have aT:=zyb a;have aQ:=a.size;clear a;go_wp2_with fail;exact zr (.tuple #[.agg #[zI 0,zI 0,zI 0,zI 0,zI 0,zI 0,zS],.agg #[zI 0,zI 0,zI 0,zI 0,zI 0,zI 0,zI 0],zI ft]) (by simp[results,Tryz.results23,scl7 aU,scl7 aT,go_sem]) ⟨ac0,bi0,none,0,0,_,rfl,.inl ⟨HV.o,rfl,rfl⟩,deb.fresh_nil _ _,aS.o⟩
 ·have HM:=zh hm;obtain⟨W0,N,aj,an,am,ak,M,bf⟩:=sh4 w #[zI x.me,zI x.rv,zI x.nx,zI x.mo,zI x.bo,zI x.fr,.slice p len cap] 55 #[.slice pt lt ct,zI t.ff,zI t.fb,zI t.db,zI t.al] 24 #[zI 0,zI 0,zI 0,zI 0,zI 0,zI 0,zS] 55 #[zI 0,zI 0,zI 0,zI 0,zI 0,zI 0,zI 0] 33;have a4:=zh (h.below M.o);have ai:=zh (ht.below M.o);go_enter Tryz.func23,Tryz.ntmps23;go_upto_region 1 with fail
  rw[N.o];have ay:Hid (zC 44 #[.agg #[zI x.me,zI x.rv,zI x.nx,zI x.mo,zI x.bo,zI x.fr,.slice p len cap]] W0 λe w'=>e=.returned (.bool false)∧zB W0 w'):=ranot x p len cap _ a4.o hl hm;go_wp2_with refine zw ?_;refine ay.o.mono ?_;rintro e w1 ⟨rfl,j⟩;obtain⟨aq,au,aD,ar⟩:=zn4 j aj an am ak;have aC:=zh (a4.o.below j);have ap:=zh (ai.o.below j);have ao:=shB M j;have aO:=j.size;clear j;go_wp2_with (first|refine zs ?_|refine zw ?_)
  intro bt a;obtain⟨ac,ad,av⟩:=zk3 a aq au ar;have ab:=zk a ao;have aw:=zyb a;have bg:=a.size;clear a;go_wp2_with (first|refine zs ?_|refine zw ?_)
  intro bm a;obtain⟨a5,a7,U⟩:=zk3 a ac ad aw;have T:=zk a ab;have a6:=zyb a;have aP:=a.size;clear a;go_wp2_with fail;exact zr (.tuple #[.agg #[zI 0,zI 0,zI 0,zI 0,zI 0,zI 0,zS],.agg #[zI 0,zI 0,zI 0,zI 0,zI 0,zI 0,zI 0],zI 5]) (by simp[results,Tryz.results23,scl7 U,scl7 a6,go_sem]) ⟨ac0,bi0,none,0,0,_,rfl,.inl ⟨.inl ⟨HM.o,rfl⟩,rfl,rfl⟩,deb.fresh_nil _ _,T.o⟩
end acc
namespace deb
open tar (Du du0 Came RowD Ld ErrPost TwoPost PairT GaveD)
open Go.RowKit
theorem kage:KdAge:=by
 intro w a len ae c mo n aN;have hr:=n.row;have aw:=zh n.bytes;have ab:=zh n.nil;have ay:=zh (pcheck a len ae c w hr n.most);have I:Hid (∀W,zC 145 #[zI 0,zI 2400,zI mo] W λe w'=>e=.returned (.bool (decide (0≤mo∧mo≤2400)))∧w'=W):=λW=>dwithin 0 2400 mo W;have X:=zh hr;clear n hr aN;go_enter Tryz.func144,Tryz.ntmps144;go_wp2_with fail;go_step3;go_wp2_with fail;refine ay.o.mono ?_;rintro e w1 ⟨f,rfl,hf,ah⟩;have t:=zh ah;have HF:=zh hf;clear ah;by_cases h0:f=0
 ·subst h0;have hm:=hf.ok.1 rfl;have HM:=zh hm;have E:=zh (X.o.below t.o);have l:=zh E.o.1;have aW:len≤8:=by have:=hm.1;have:=l.o;omega
  clear hf hm;by_cases B:0≤mo∧mo≤2400
  ·rw[decide_eq_true B] at I;have K:=zh B;obtain⟨m,rfl⟩:=Int.eq_ofNat_of_zero_le B.1;have aX:m≤2400:=by omega
   have aa:Hid ((m:Int).toNat=m):=by show _=_;omega
   clear B;go_wp2_with fail;refine(I.o _).mono ?_;rintro e s ⟨rfl,a2⟩;subst a2;cases a with
   |none=>
    have aH:=ab.o rfl;have aM:len=0:=by rcases E.o.2 with h|⟨b,i,h,_⟩;exact h;cases h
    subst aH aM;have aS:∀w:World,(Builtin.append_ #[53,53] 53 #[zS,zS]).run Tryz.prog w=.ok (zS) w:=λw=>by kernel_rfl
    have Q:Hid (AgeIs c (m:Int) (ageAll c m) 0):=.inr (.inr ⟨HM.o,K.o,rfl,by rw[aa.o]⟩)
    have HZ:Hid (ageAll c m=[]):=by
     obtain rfl:c=[]:=List.eq_nil_of_length_eq_zero l.o;rfl
    go_wp2_with fail;go_step3;go_wp2_with fail;go_loopg [22] 0 (λg z wr=>z=zI 0∧wr=s)
    case atStart=>exact⟨rfl,rfl⟩
    case round=>
     obtain⟨rfl,rfl⟩:=hrel;go_wp2_with fail
     try rw[Exit.noGoto_ret]
     go_ret2;exact⟨none,0,0,_,0,rfl,Q.o,by rw[HZ.o];exact fresh_nil _ _,t.o⟩
   |some A=>
    go_wp2_with (first
     |(at_builtin;refine tar.wp_pairs debtT rfl _ _ rfl s.heap.size A len ae c rfl rfl E.o aw.o zc ?_)
     | fail)
    intro v3 w3 G hg;obtain⟨Y,d,ao,M⟩:=ld_mays G HM.o;rw[l.o] at ao;subst ao;have aB:=zh G;have ar:Hid (zB s w3):=zb.grown hg zc (λk hk=>by cases hk);clear G hg M;go_wp2_with fail;go_step3;go_wp2_with fail;have a9:=zh aB.o;go_loopg [22] len (λg z wr=>∃k:Nat,k+g=len∧z=zI (k:Int)∧Ld 42 wr s.heap.size (.slice Y len d) (mixK c m k)∧zB s wr)
    case atStart=>exact⟨0,by omega,rfl,a9.o,ar.o⟩
    case round=>
     obtain⟨k,aV,rfl,hl,hb⟩:=hrel;have a8:=zh hl;have a5:=zh hb;clear hl hb;cases gk with
     |zero=>
      obtain rfl:k=len:=by omega
      have aK:decide ((k:Int)<(k:Int))=false:=by simp
      have Q:Hid (AgeIs c (m:Int) (ageAll c m) 0):=.inr (.inr ⟨HM.o,K.o,rfl,by rw[aa.o]⟩);have aD:Hid (Ld 42 wr s.heap.size (.slice Y k d) (ageAll c m)):=by have:=a8.o;rw[mix_all c m k l.o] at this;exact this
      have ax:Hid (Fresh wr w.heap.size Y k d (ageAll c m)):=by
       obtain⟨a4,aR,a1,M⟩:=ld_fresh aD.o (ageAll_mays HM.o m);have e:(ageAll c m).length=k:=by rw[ageAll_len];exact l.o
       rw[e] at a1 M;simp only[Value.slice.injEq,true_and] at a1;obtain⟨rfl,rfl⟩:=a1;exact M.low t.o.size
      have av:=zh (t.o.trans (a5.o.mono t.o.size));generalize ageAll c m=Z at *;go_wp2_with fail
      try rw[Exit.noGoto_ret]
      go_ret2;exact⟨Y,k,d,Z,0,rfl,Q.o,ax.o,av.o⟩
     |succ g=>
      have F:k<len:=by omega
      have aK:decide ((k:Int)<(len:Int))=true:=by simp;omega
      have N:k<c.length:=by rw[l.o];exact F
      have ho:=HM.o.2 k N;have J:Hid ((mixK c m k).length=len):=by show _=_;rw[mix_len c m k (by omega)];exact l.o
      have aE:=zh (mix_same c m k N);have ac:=zh (mix_next c m k N);have aP:=ho.1.1;have aQ:=ho.1.2;have O:=ho.2.1;have ap:=ho.2.2;clear ho N;generalize (c.getD k du0).a=x at *;generalize (c.getD k du0).b=y at *;go_wp2_with fail;go_loopg [26] m (λg2 z wy=>∃j:Nat,j+g2=m∧z=zI (j:Int)∧Ld 42 wy s.heap.size (.slice Y len d) ((mixK c m k).set k ⟨growN y j x,y⟩)∧zB s wy)
      case atStart=>exact⟨0,by omega,rfl,by rw[aE.o];exact a8.o,a5.o⟩
      case round=>
       rename_i wo
       obtain⟨j,aT,rfl,hl,hb⟩:=hrel;have C:=zh hl;have H:=zh hb;clear hl hb;cases gk with
       |zero=>
        obtain rfl:j=m:=by omega
        have aJ:decide ((j:Int)<(j:Int))=false:=by simp
        have V:Hid (Ld 42 wr s.heap.size (.slice Y len d) (mixK c j (k+1))):=by have:=C.o;rw[ac.o] at this;exact this
        go_wp2_with fail;go_roundg g
        case measure=>omega
        case rel=>exact⟨k+1,by omega,by first|rfl|go_num,V.o,H.o⟩
       |succ g2=>
        have aJ:decide ((j:Int)<(m:Int))=true:=by simp;omega
        have aU:j<m:=by omega
        obtain⟨L,af,aj,al,P,aI,ai⟩:=ld_lies C.o (by omega);have r:=ai k (by rw[List.length_set,J.o];exact F)
        have ag:((mixK c m k).set k ⟨growN y j x,y⟩).getD k du0=⟨growN y j x,y⟩:=by
         have:k<(mixK c m k).length:=by rw[J.o];exact F
         simp[List.getD,this]
        rw[ag] at r;obtain⟨i,hoff⟩:∃i:Nat,i=0:=⟨0,rfl⟩
        have ad:=zh hoff;have ak:Y=some ⟨L,i,none⟩:=by rw[aj,hoff]
        have c0:wr.cell? ⟨L,i+k*2,none⟩=some (zI (growN y j x)):=by rw[hoff,Nat.zero_add];exact r.1
        have c1:wr.cell? ⟨L,i+k*2+1,none⟩=some (zI y):=by rw[hoff,Nat.zero_add];exact r.2
        have S:=zh P;have aL:i+k*2<af.size:=by omega
        have az:=zh al;clear r ag ai P al aj aI hoff;subst ak;have am:=growN_bd O ap aP aQ j;have a0:0≤growN y j x:=by omega
        have an:=am.2;have a6:Hid (growN y (j+1) x=grow y (growN y j x)):=rfl;have T:Hid (∀W,zC 180 #[.agg #[zI (growN y j x),zI y]] W λe w'=>e=.returned (zI (min (growN y j x*y/10000) (1000000000-growN y j x)))∧zB W w'):=λW=>pgrowth _ _ W ⟨a0,an⟩ ⟨O,ap⟩;have D:=zh (grow_more a0 an O)
        have aZ:0≤min (growN y j x*y/10000) (1000000000-growN y j x):=by
         have:=Int.mul_nonneg a0 O;generalize growN y j x*y=pp at *;omega
        have b0:min (growN y j x*y/10000) (1000000000-growN y j x)≤1000000000-growN y j x:=Int.min_le_right _ _;generalize min (growN y j x*y/10000) (1000000000-growN y j x)=v at *;clear am;by_cases hz:v=0
        ·have aO:(v==0)=true:=by simpa using hz
         have aG:Hid (growN y m x=growN y j x):=by
          have h1:grow y (growN y j x)=growN y j x:=by rw[D.o,hz];omega
          have h2:=growN_still h1 (m-j);rw[growN_add,show j+(m-j)=m by omega] at h2;exact h2
         have V:Hid (Ld 42 wr s.heap.size (.slice (some ⟨L,i,none⟩) len d) (mixK c m (k+1))):=by have:=C.o;rw[← aG.o,ac.o] at this;exact this
         clear hz;generalize growN y j x=u at *;go_wp2_with fail;refine(T.o _).mono ?_;rintro e w5 ⟨rfl,q⟩;have U:=zh (V.o.next q);have R:=shB H q;clear q c0 c1;go_wp2_with fail;go_roundg g
         case measure=>omega
         case rel=>exact⟨k+1,by omega,by first|rfl|go_num,U.o,R.o⟩
        ·have aO:(v==0)=false:=by simpa using hz
         have aF:Hid (((mixK c m k).set k ⟨growN y j x,y⟩).set k ⟨growN y j x+v,y⟩=(mixK c m k).set k ⟨growN y (j+1) x,y⟩):=by show _=_;rw[List.set_set,a6.o,D.o]
         have aq:Hid ((((mixK c m k).set k ⟨growN y j x,y⟩).getD k du0).b=y):=by
          have:k<(mixK c m k).length:=by rw[J.o];exact F
          show _=_;simp[List.getD,this]
         have aA:Hid (k<((mixK c m k).set k ⟨growN y j x,y⟩).length):=by show _<_;rw[List.length_set,J.o];exact F
         clear hz a6 D;generalize (mixK c m k).set k ⟨growN y j x,y⟩=Z at *;generalize growN y j x=u at *;go_wp2_with fail;refine(T.o _).mono ?_;rintro e w5 ⟨rfl,q⟩;have U:Hid (Ld 42 w5 s.heap.size (.slice (some ⟨L,i,none⟩) len d) Z):=C.o.next q;have R:=shB H q;have a7:=shN S q;have e0:w5.cell? ⟨L,i+k*2,none⟩=some (zI u):=(q.cell (p:=⟨L,i+k*2,none⟩) S.o.lt).trans c0;clear q T C c0 c1 S H
         go_wp2_with (first
          |(refine wp_let1 rfl 3 _ _ rfl L (i+k*2) rfl .i64 (u+v) rfl (by kernel_rfl) af 42 a7.o aL ?_)
          | fail)
         intro W6 hU
         have aC:Hid (Ld 42 W6 s.heap.size (.slice (some ⟨L,i,none⟩) len d) ((mixK c m k).set k ⟨growN y (j+1) x,y⟩)):=by
          obtain rfl:=ad.o;rw[Nat.zero_add] at hU;show Ld _ _ _ _ _;rw[← aF.o];exact ld_put U.o a7.o k aA.o _ _ aq.o hU
         have au:Hid (zB s W6):=hU.bel _ _ az.o R.o;clear hU e0;go_wp2_with fail;go_roundg g2
         case measure=>omega
         case rel=>exact⟨j+1,by omega,by first|rfl|go_num,aC.o,au.o⟩
  ·rw[decide_eq_false B] at I;have K:=zh B;clear B;go_wp2_with fail;refine(I.o _).mono ?_;rintro e s ⟨rfl,a2⟩;subst a2;go_wp2_with fail
   try rw[Exit.noGoto_ret]
   go_ret2;exact⟨none,0,0,[],2,rfl,.inr (.inl ⟨HM.o,K.o,rfl,rfl⟩),fresh_nil _ _,t.o⟩
 ·have aY:(f != 0)=true:=by simpa using h0
  have HN:Hid (¬ Mays c):=λh=>h0 (hf.ok.2 h);clear hf h0;go_wp2_with fail
  try rw[Exit.noGoto_ret]
  go_ret2;exact⟨none,0,0,[],f,rfl,.inl ⟨HN.o,HF.o,rfl⟩,fresh_nil _ _,t.o⟩
end deb
namespace acc
open tar (Du du0 Came RowD Ld PairT)
open Go.RowKit
def RollR(x:Ac)(m:Int)(b0:Bi)(y:Ac)(b:Bi)(f:Int):Prop:=((¬ RMay x m∧RErr x m f∧y=x)∨(RMay x m∧y=rolled x m∧f=0))∧b=b0
theorem proll(g:Nat)(x:Ac)(b:Bi)(p:Option Addr)(len cap:Nat)(m:Int)(w:World)(hw:Blk w g (wcs x b p len cap) 132)(hd:deb.Fresh w (g+1) p len cap x.ds)(ha:AMay x):Calls Tryz.prog 98 #[.pointer (some ⟨g,0,none⟩),zI m] w λe w'=>DPost w g (RollR x m b) e w':=by
 have ab:=hw.lt;have D:=ha.2.2.2.2.1;have a7:=zh ha.1;obtain⟨k,r,l,a,y,j,s⟩:=x;obtain⟨E,G,B,C,F,A,H⟩:=b;simp only[] at D;have I:=zh hw;have T:=zh hd;have i:Hid (∀W,zC 66 #[zI 0,zI 2399,zI m] W λe w'=>e=.returned (.bool (decide (0≤m∧m≤2399)))∧w'=W):=λW=>awithin 0 2399 m W;have q3:=zy3 I;clear hw hd ha;by_cases t:0≤m∧m≤2399
 ·rw[decide_eq_true t] at i;by_cases O:m<a
  ·have d2:decide (m<a)=true:=decide_eq_true O;have J:Hid (RollR ⟨k,r,l,a,y,j,s⟩ m ⟨E,G,B,C,F,A,H⟩ ⟨k,r,l,a,y,j,s⟩ ⟨E,G,B,C,F,A,H⟩ 23):=⟨.inl ⟨λhh=>by have:a≤m:=hh.2;omega,.inr ⟨t,O,rfl⟩,rfl⟩,rfl⟩
   clear t O D;go_enter Tryz.func98,Tryz.ntmps98;go_wp2_with fail;refine(i.o _).mono ?_;rintro e N ⟨rfl,M⟩;subst N;go_wp2_with fail;go_ret;exact⟨_,_,p,len,cap,23,rfl,J.o,I.o,T.o,Chg.refl _ _⟩
  ·have d2:decide (m<a)=false:=decide_eq_false O;have Q:Hid (RMay ⟨k,r,l,a,y,j,s⟩ m):=⟨t,by show a≤m;omega⟩
   by_cases U:a<m
   ·have d3:decide (a<m)=true:=decide_eq_true U;have ac:IntKind.i64.wrap (m-a)=m-a:=by rw[IntKind.wrap_i64];omega
    have V:Hid (zC 144 #[.slice p len cap,zI (m-a)] w.drew λe w'=>deb.AgePost w.drew s (m-a) e w'):=deb.kage _ p len cap s (m-a) (fresh_drew T.o).came (tar.wf_mid (by omega) (by omega));have a8:Hid (0≤m-a∧m-a≤2400):=⟨by omega,by omega⟩
    have a9:Hid (¬ m=a):=by show ¬ _=_;omega
    clear t O U;go_enter Tryz.func98,Tryz.ntmps98;go_wp2_with fail;refine(i.o _).mono ?_;rintro e N ⟨rfl,M⟩;subst N;go_wp2_with fail;clear d2 d3 q3;have q6:=zy6 I;refine wp_region_held_drew (S:=λv=>v.cell? ⟨g,3,none⟩=some (zI a)) (by kernel_rfl) (show w.drew.cell? _=_ from I.o.cell 3) (λd=>?_);refine zt' 0 (.pointer (some ⟨g,0,none⟩)) ?_;refine zt' 1 (.pointer (some ⟨g,0,none⟩)) ?_;refine zt' 2 (.pointer (some ⟨g,0,none⟩)) ?_;refine zt' 3 (.pointer (some ⟨g,0,none⟩)) ?_;refine zt' 4 (.pointer (some ⟨g,6,none⟩)) ?_;refine zt' 6 (zI m) ?_;refine zt' 7 (.pointer (some ⟨g,0,none⟩)) ?_;refine zt' 8 (.pointer (some ⟨g,0,none⟩)) ?_;refine zt' 9 (.pointer (some ⟨g,0,none⟩)) ?_;refine zt' 10 (.pointer (some ⟨g,3,none⟩)) ?_;refine zu' 11 (zI a) rfl rfl (Or.inl ⟨by rfl,λv hv=>by have g0:=hv;clear hv;go_simp⟩) ?_;refine zt' 12 (zI (m-a)) ?_;refine zo 5 λK u=>?_;rw[if_pos (by rfl)];refine wp_runOp (v:=.slice p len cap) (w':=w.drew) 31 rfl (by clear u;go_simp) ?_;refine u.o _ _ (show w.drew.cell? _=_ from I.o.cell 3) (λd=>?_);clear u K q6;simp only[Act.put,zq];refine zo 13 λK u=>?_;rw[if_pos (by rfl)];refine wp_callOp 39 rfl (by clear u;go_simp) V.o ?_;rintro e w1 ⟨q,n,c,z,f,rfl,hz,hf,L⟩;obtain⟨rfl,R⟩:=hz.got a7.o a8.o;have P:=zh ((Blk.drew I.o 1).next L);have X:Hid (Chg w w1 g):=(Chg.of (bel_drew zb 1)).trans (.of L);have a1:=zh (hf.low (by show g+1≤w.heap.size;omega));have HZ:=zh R;refine⟨_,rfl,u.o _ _ (P.o.cell 3) (λd=>?_)⟩;clear u K hz hf L R;simp only[Act.put,zq];refine zt' 14 (.tuple #[.slice q n c,zI 0]) ?_;refine zt' 15 (.slice q n c) ?_;refine zt' 16 (zI 0) ?_;refine zt' 17 (.pointer (some ⟨g,0,none⟩)) ?_;refine zt' 18 (.pointer (some ⟨g,0,none⟩)) ?_;refine zt' 19 (.pointer (some ⟨g,6,none⟩)) ?_;refine zo 20 λK u=>?_;rw[if_pos (by rfl)];refine wp_letOp1 53 _ _ rfl g 6 rfl (.slice q n c) rfl rfl (by kernel_rfl) rfl #[zI k,zI r,zI l,zI a,zI y,zI j,.slice p len cap,zI E,zI G,zI B,zI C,zI F,zI A,zI H] 132 P.o (by simp) rfl ?_
    intro W2 h;have a5:=zyb h;have Y:=zh (X.o.trans (.upd h));have a2:=zh (fresh_chg a1.o (.upd h));clear h;refine u.o _ _ (a5.o.cell 3) (λd=>?_);clear u K;refine wpAnyH_done (by kernel_rfl) ?_ _;clear d;go_wp2_with refine zl ?_;intro W3 h;have aa:=zyb h;have Z:=zh (Y.o.trans (.upd h));have a3:=zh (fresh_chg a2.o (.upd h));clear h;go_wp2_with refine zl ?_;intro W4 h;have a6:=zyb h;have a0:=zh (Z.o.trans (.upd h));have a4:=zh (fresh_chg a3.o (.upd h));have J:Hid (RollR ⟨k,r,l,a,y,j,s⟩ m ⟨E,G,B,C,F,A,H⟩ ⟨k,r,l,m,0,j,z⟩ ⟨E,G,B,C,F,A,H⟩ 0):=⟨.inr ⟨Q.o,by unfold rolled;rw[if_neg a9.o,HZ.o],rfl⟩,rfl⟩
    clear h;go_wp2_with fail;go_ret;exact⟨⟨k,r,l,m,0,j,z⟩,_,q,n,c,0,rfl,J.o,a6.o,a4.o,a0.o⟩
   ·have d3:decide (a<m)=false:=decide_eq_false U;have J:Hid (RollR ⟨k,r,l,a,y,j,s⟩ m ⟨E,G,B,C,F,A,H⟩ ⟨k,r,l,a,y,j,s⟩ ⟨E,G,B,C,F,A,H⟩ 0):=⟨.inr ⟨Q.o,by unfold rolled;rw[if_pos (by show m=a;omega)],rfl⟩,rfl⟩
    clear t O U D;go_enter Tryz.func98,Tryz.ntmps98;go_wp2_with fail;refine(i.o _).mono ?_;rintro e N ⟨rfl,M⟩;subst N;go_wp2_with fail;go_ret;exact⟨_,_,p,len,cap,0,rfl,J.o,I.o,T.o,Chg.refl _ _⟩
 ·rw[decide_eq_false t] at i;have J:Hid (RollR ⟨k,r,l,a,y,j,s⟩ m ⟨E,G,B,C,F,A,H⟩ ⟨k,r,l,a,y,j,s⟩ ⟨E,G,B,C,F,A,H⟩ 2):=⟨.inl ⟨λhh=>t hh.1,.inl ⟨t,rfl⟩,rfl⟩,rfl⟩
  clear t D q3;go_enter Tryz.func98,Tryz.ntmps98;go_wp2_with fail;refine(i.o _).mono ?_;rintro e N ⟨rfl,M⟩;subst N;go_wp2_with fail;go_ret;exact⟨_,_,p,len,cap,2,rfl,J.o,I.o,T.o,Chg.refl _ _⟩
def BeginR(x:Ac)(t:Tm)(m:Int)(b0:Bi)(y:Ac)(b:Bi)(f:Int):Prop:=((¬ TRight t∧TFault t f∧y=x)∨(TRight t∧¬ RMay x m∧RErr x m f∧y=x)∨(TRight t∧RMay x m∧y=rolled x m∧f=0))∧b=b0
theorem pbegin(g:Nat)(x:Ac)(p:Option Addr)(len cap:Nat)(t:Tm)(pt:Option Addr)(lt ct:Nat)(b:Bi)(m:Int)(w:World)(hw:Blk w g (wcs x b p len cap) 132)(hd:deb.Fresh w (g+1) p len cap x.ds)(ha:AMay x)(ht:Came w pt lt ct t.ts)(hwf:wf4 t)(hfar:Far pt lt g):Calls Tryz.prog 65 #[.pointer (some ⟨g,0,none⟩),.agg #[.slice pt lt ct,zI t.ff,zI t.fb,zI t.db,zI t.al],zI m] w λe w'=>DPost w g (BeginR x t m b) e w':=by
 have R:=hw.lt;have C:Hid (∀W,zB w W→zC 97 #[.agg #[.slice pt lt ct,zI t.ff,zI t.fb,zI t.db,zI t.al]] W λe w'=>tar.ErrPost W (TFault t) e w'):=λW Q=>kcheck W t pt lt ct ⟨ht.below Q,hwf⟩;have E:Hid (∀W,Blk W g (wcs x b p len cap) 132→deb.Fresh W (g+1) p len cap x.ds→zC 98 #[.pointer (some ⟨g,0,none⟩),zI m] W λe w'=>DPost W g (RollR x m b) e w'):=λW l r=>proll g x b p len cap m W l r ha;have d:Hid (zB w (w.alloc (.cells #[.slice pt lt ct,zI t.ff,zI t.fb,zI t.db,zI t.al] 24))):=(Below.refl w.heap.size w).alloc (by simp) _;have O:=zye w #[.slice pt lt ct,zI t.ff,zI t.fb,zI t.db,zI t.al] 24;have B:Hid (Blk (w.alloc (.cells #[.slice pt lt ct,zI t.ff,zI t.fb,zI t.db,zI t.al] 24)) g (wcs x b p len cap) 132):=hw.alloc _;have A:=zh (hd.below d.o);clear hw hd ha ht hwf hfar;generalize s:(w.alloc (.cells #[.slice pt lt ct,zI t.ff,zI t.fb,zI t.db,zI t.al] 24))=T at *;have F:=zh s;clear s;go_enter Tryz.func65,Tryz.ntmps65;go_upto_region 1 with fail
 rw[F.o];go_wp2_with refine zw ?_;refine(C.o _ d.o).mono ?_;rintro e N ⟨f,rfl,hf,a⟩;have k:=shN B a;have j:=zh (A.o.below a);have i:Hid (Chg w N g):=.of (bel_step d.o a);have D:=zh hf;clear hf a;by_cases z:f=0
 ·subst z;have I:Hid (TRight t):=D.o.ok.1 rfl;go_wp2_with fail;refine(E.o _ k.o j.o).mono ?_;rintro e S ⟨y,P,q,n,c,f,rfl,⟨M,J⟩,L,u,K⟩
  have G:Hid (DPost w g (BeginR x t m b) (.returned (zI f)) S):=by
   refine⟨y,P,q,n,c,f,rfl,⟨?_,J⟩,L,u,i.o.trans K⟩;rcases M with⟨l,r,H⟩|⟨l,r,H⟩
   ·exact .inr (.inl ⟨I.o,l,r,H⟩)
   ·exact .inr (.inr ⟨I.o,l,r,H⟩)
  clear M J L u K;go_wp2_with fail;go_ret;exact G.o
 ·have U:(f != 0)=true:=by simpa using z
  have G:Hid (DPost w g (BeginR x t m b) (.returned (zI f)) N):=⟨x,b,p,len,cap,f,rfl,⟨.inl ⟨λh=>z (D.o.ok.2 h),D.o,rfl⟩,rfl⟩,k.o,j.o,i.o⟩
  clear z;go_wp2_with fail;go_ret;exact G.o
end acc
end Go.Proofs.YtoepgdhiepedeaaGreatDoor
