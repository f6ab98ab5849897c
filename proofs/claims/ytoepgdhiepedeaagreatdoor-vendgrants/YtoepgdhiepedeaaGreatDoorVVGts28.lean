import Derived.Test.YtoepgdhiepedeaaGreatDoorVVGts19
import Derived.Test.YtoepgdhiepedeaaGreatDoorVVGts24
import Derived.Test.YtoepgdhiepedeaaGreatDoorVVGts27
set_option linter.unusedVariables false
set_option linter.unusedSimpArgs false
set_option maxHeartbeats 4000000
set_option maxRecDepth 100000
namespace Go.Proofs.YtoepgdhiepedeaaGreatDoor
namespace acc
open tar (Du du0 Came RowD Ld PairT)
open Go.RowKit
theorem rgranted(x:Ac)(p:Option Addr)(len cap:Nat)(t:Tm)(pt:Option Addr)(lt ct:Nat)(m:Int)(w:World)(h:RowD w p len x.ds)(hl:len≤maxLen)(ht:RowD w pt lt t.ts)(htl:lt≤maxLen):Calls Tryz.prog 23 #[.agg #[zI x.me,zI x.rv,zI x.nx,zI x.mo,zI x.bo,zI x.fr,.slice p len cap],.agg #[.slice pt lt ct,zI t.ff,zI t.fb,zI t.db,zI t.al],zI m] w λe w'=>BPost w (GrantIs x t m) e w':=by
 by_cases hm:AMay x
 ·have HM:=zh hm;have bs:=hm.2.2.2.1;have br:=hm.2.2.2.2.1;obtain⟨W0,N,aj,an,am,ak,M,bf⟩:=sh4 w #[zI x.me,zI x.rv,zI x.nx,zI x.mo,zI x.bo,zI x.fr,.slice p len cap] 55 #[.slice pt lt ct,zI t.ff,zI t.fb,zI t.db,zI t.al] 24 #[zI 0,zI 0,zI 0,zI 0,zI 0,zI 0,zS] 55 #[zI 0,zI 0,zI 0,zI 0,zI 0,zI 0,zI 0] 33;have a4:=zh (h.below M.o);have ai:=zh (ht.below M.o);go_enter Tryz.func23,Tryz.ntmps23;go_upto_region 1 with fail
  rw[N.o];have ay:Hid (zC 44 #[.agg #[zI x.me,zI x.rv,zI x.nx,zI x.mo,zI x.bo,zI x.fr,.slice p len cap]] W0 λe w'=>e=.returned (.bool true)∧zB W0 w'):=ramay x p len cap _ a4.o hl hm;go_wp2_with refine zw ?_;refine ay.o.mono ?_;rintro e w1 ⟨rfl,j⟩;obtain⟨aq,au,aD,ar⟩:=zn4 j aj an am ak;have aC:=zh (a4.o.below j);have ap:=zh (ai.o.below j);have ao:=shB M j;have aO:=j.size;clear j;clear hm;have ba:=zh (rterms t pt lt ct w1 ap.o htl);go_wp2_with refine zw ?_;refine ba.o.mono ?_;rintro e w2 ⟨ft,rfl,aa,a1⟩;obtain⟨ac,ad,aw,av⟩:=zn4 a1 aq au aD ar;have aE:=zh (aC.o.below a1);have aR:=zh (ap.o.below a1);have ab:=shB ao a1;have bk:=a1.size;clear a1;by_cases h0:ft=0
  ·subst h0;have HT:Hid (TRight t):=aa.ok.1 rfl;clear aa;have b9:=zh (rrolled x p len cap m w2 aE.o hl);go_wp2_with refine zw ?_;refine b9.o.mono ?_;rintro e w3 ⟨b,J,I,G,fr,rfl,af,aM,a2⟩;obtain⟨a5,a7,U,a6⟩:=zn4 a2 ac ad aw av;have aF:=zh (aE.o.below a2);have aG:=zh (aR.o.below a2);have T:=shB ab a2;have bl:=a2.size;clear a2;unfold Ac.v Ac.cs;have ax:=zh aM;have c:=zh (came_lt ax.o.came);clear aM;by_cases h4:fr=0
   ·subst h4
    have a3:RMay x m∧b=rolled x m:=by
     rcases af with⟨q,_⟩|⟨_,_,q,_⟩|⟨_,q,r,_⟩
     ·exact absurd HM.o q
     ·exact absurd rfl q.ne
     ·exact⟨q,r⟩
    have ae:Hid (Ready x t m):=⟨HM.o,HT.o,a3.1⟩
    have b7:=zh a3.2;have aA:=rolled_same x m;rw[← a3.2] at aA;have bb:=(rolled_may HM.o a3.1).2.2.2.2.2.1;rw[← a3.2] at bb;have az:=zh aA;clear a3 af aA;obtain⟨W4,N,a8,n,aN⟩:=sh1 w3 #[zI b.me,zI b.rv,zI b.nx,zI b.mo,zI b.bo,zI b.fr,.slice J I G] 55;obtain⟨l,u,aH,W⟩:=zn4 n.o a5 a7 U a6;have aV:=zh (aF.o.below n.o);have aW:=zh (aG.o.below n.o);have k:=zh (ax.o.below n.o);have V:=shB T n.o;go_upto_region 7 with fail
    rw[N.o];by_cases h5:t.al=0
    ·have d5:(t.al==0)=true:=by simpa using h5
     have HV:Hid (GrantIs x t m ac0 bi0 22):=.inr (.inl ⟨ae.o,h5,rfl,rfl,rfl⟩);clear h5;have ah:=zy4 u;go_wp2_with (first|refine zs ?_|refine zw ?_)
     intro O a;obtain⟨z,C,a9,L⟩:=zk4 a l u W a8;have B:=zyb a;have i:Hid (deb.Fresh O w2.heap.size J I G b.ds):=fresh_updN k.o a (λd y f=>by have f1:=k.o.new d y f;have f2:=c.o d y f;omega);have A:=zk a V;have Q:=a.size;clear a;go_wp2_with (first|refine zs ?_|refine zw ?_)
     intro s a;obtain⟨Y,a0,F,Z⟩:=zk4 a z C B L;have E:=zyb a;have X:Hid (deb.Fresh s w2.heap.size J I G b.ds):=fresh_updN i.o a (λd y f=>by have f1:=i.o.new d y f;have f2:=c.o d y f;omega);have D:=zk a A;have H:=a.size;clear a;go_wp2_with fail;exact zr (.tuple #[.agg #[zI 0,zI 0,zI 0,zI 0,zI 0,zI 0,zS],.agg #[zI 0,zI 0,zI 0,zI 0,zI 0,zI 0,zI 0],zI 22]) (by simp[results,Tryz.results23,scl7 F,scl7 E,go_sem]) ⟨ac0,bi0,none,0,0,_,rfl,HV.o,deb.fresh_nil _ _,D.o⟩
    ·have d5:(t.al==0)=false:=by simpa using h5
     by_cases h6:x.fr=m
     ·have d6:(x.fr==m)=true:=by simpa using h6
      have HV:Hid (GrantIs x t m ac0 bi0 21):=.inr (.inr (.inl ⟨ae.o,h5,h6,rfl,rfl,rfl⟩));clear h5 h6;have ah:=zy4 u;have aB:=zy5 l;go_wp2_with (first|refine zs ?_|refine zw ?_)
      intro O a;obtain⟨z,C,a9,L⟩:=zk4 a l u W a8;have B:=zyb a;have i:Hid (deb.Fresh O w2.heap.size J I G b.ds):=fresh_updN k.o a (λd y f=>by have f1:=k.o.new d y f;have f2:=c.o d y f;omega);have A:=zk a V;have Q:=a.size;clear a;go_wp2_with (first|refine zs ?_|refine zw ?_)
      intro s a;obtain⟨Y,a0,F,Z⟩:=zk4 a z C B L;have E:=zyb a;have X:Hid (deb.Fresh s w2.heap.size J I G b.ds):=fresh_updN i.o a (λd y f=>by have f1:=i.o.new d y f;have f2:=c.o d y f;omega);have D:=zk a A;have H:=a.size;clear a;go_wp2_with fail;exact zr (.tuple #[.agg #[zI 0,zI 0,zI 0,zI 0,zI 0,zI 0,zS],.agg #[zI 0,zI 0,zI 0,zI 0,zI 0,zI 0,zI 0],zI 21]) (by simp[results,Tryz.results23,scl7 F,scl7 E,go_sem]) ⟨ac0,bi0,none,0,0,_,rfl,HV.o,deb.fresh_nil _ _,D.o⟩
     ·have d6:(x.fr==m)=false:=by simpa using h6
      by_cases h7:x.nx≤1048575
      ·have d7:(x.nx==1048576)=false:=by simp;omega
       have ah:=zy4 u;have aB:=zy5 l;have ag:=zy2 l;go_wp2_with refine zl ?_;clear ah aB ag;intro W5 a;obtain⟨z,C,B,a9⟩:=zk4 a l u aH W;have L:=zyb a;have i:Hid (deb.Fresh W5 w2.heap.size J I G b.ds):=fresh_updN k.o a (λd y f=>by have f1:=k.o.new d y f;have f2:=c.o d y f;omega);have A:=zk a V;have bi:=a.size;clear a;have ag:=zy2 z;go_wp2_with (first|refine zl ?_|refine zw ?_)
       intro W6 a;obtain⟨Y,a0,F,E⟩:=zk4 a z C B a9;have Z:=zyb a;have X:Hid (deb.Fresh W6 w2.heap.size J I G b.ds):=fresh_updN i.o a (λd y f=>by have f1:=i.o.new d y f;have f2:=c.o d y f;omega);have D:=zk a A;have bj:=a.size;clear a;clear ag;go_upto_region 17 with fail
       refine wp_region_held_drew (S:=λv=>Blk v (w3.heap.size) #[zI b.me,zI b.rv,zI (x.nx+1),zI b.mo,zI b.bo,zI m,.slice J I G] 55∧Blk v (w.heap.size) #[zI x.me,zI x.rv,zI x.nx,zI x.mo,zI x.bo,zI x.fr,.slice p len cap] 55∧Blk v (w.heap.size+1) #[.slice pt lt ct,zI t.ff,zI t.fb,zI t.db,zI t.al] 24) (by kernel_rfl) ⟨Blk.drew Z.o 1,Blk.drew Y.o 1,Blk.drew a0.o 1⟩ (λP=>?_);refine zu' 0 (.agg #[zI b.me,zI b.rv,zI (x.nx+1),zI b.mo,zI b.bo,zI m,.slice J I G]) rfl rfl (Or.inl ⟨by rfl,λv R=>by have g0:=R.1.cell 0;have g1:=R.1.cell 1;have g2:=R.1.cell 2;have g3:=R.1.cell 3;have g4:=R.1.cell 4;have g5:=R.1.cell 5;have g6:=R.1.cell 6;clear R;go_simp⟩) ?_;refine zt' 1 (.pointer (some ⟨w.heap.size,2,none⟩)) ?_;refine zu' 2 (zI x.nx) rfl rfl (Or.inl ⟨by rfl,λv R=>by have g:=R.2.1.cell 2;clear R;go_simp⟩) ?_;refine zt' 3 (.pointer (some ⟨w.heap.size+1,4,none⟩)) ?_;refine zu' 4 (zI t.al) rfl rfl (Or.inl ⟨by rfl,λv R=>by have g:=R.2.2.cell 4;clear R;go_simp⟩) ?_;refine zt' 5 (.agg #[zI x.nx,zI 0,zI 0,zI 0,zI 0,zI 0,zI t.al]) ?_;refine zo 6 λK hK=>?_;rw[if_pos (by rfl)];refine wp_letOp 55 _ _ rfl (w.heap.size+1+1) rfl #[zI b.me,zI b.rv,zI (x.nx+1),zI b.mo,zI b.bo,zI m,.slice J I G] rfl (by kernel_rfl) (by simp[Value.oneCell']) #[zI 0,zI 0,zI 0,zI 0,zI 0,zI 0,zS] 55 (Blk.drew F.o 1) rfl rfl ?_;intro V1 a;have aJ:=zh (a.keep (Blk.drew Y.o 1) (by omega));have aL:=zh (a.keep (Blk.drew a0.o 1) (by omega));have aZ:=zyb a;have aY:=zh (a.keep (Blk.drew E.o 1) (by omega));have aK:=zh (a.keep (Blk.drew Z.o 1) (by omega));have aI:Hid (deb.Fresh V1 w2.heap.size J I G b.ds):=fresh_updN (fresh_drew X.o) a (λd y f=>by have f1:=X.o.new d y f;have f2:=c.o d y f;omega);have aX:Hid (zB w V1):=a.bel _ _ (by omega) D.o.drew;clear a;refine hK.o _ _ ⟨aK.o,aJ.o,aL.o⟩ (λP=>?_)
       clear hK K;refine zo 7 λK hK=>?_;rw[if_pos (by rfl)];refine wp_letOp 33 _ _ rfl (w.heap.size+1+1+1) rfl #[zI x.nx,zI 0,zI 0,zI 0,zI 0,zI 0,zI t.al] rfl (by kernel_rfl) (by simp[Value.oneCell']) #[zI 0,zI 0,zI 0,zI 0,zI 0,zI 0,zI 0] 33 aY.o rfl rfl ?_;intro V2 a;obtain⟨b2,b6,b5,b4⟩:=zk4 a aJ aL aZ aK;have b3:=zyb a;have b1:Hid (deb.Fresh V2 w2.heap.size J I G b.ds):=fresh_updN aI.o a (λd y f=>by have f1:=aI.o.new d y f;have f2:=c.o d y f;omega);have b0:=zk a aX;clear a;refine hK.o _ _ ⟨b4.o,b2.o,b6.o⟩ (λP=>?_);clear hK K;refine zt' 8 (zI 0) ?_;refine wpAnyH_done (by kernel_rfl) ?_ _;clear P
       have b8:Hid (⟨b.me,b.rv,x.nx+1,b.mo,b.bo,m,b.ds⟩=granted x m):=by
        show _=_;unfold granted;rw[← b7.o,az.o.1,az.o.2.1,az.o.2.2.2.1]
       go_wp2_with fail;exact zr (.tuple #[.agg #[zI b.me,zI b.rv,zI (x.nx+1),zI b.mo,zI b.bo,zI m,.slice J I G],.agg #[zI x.nx,zI 0,zI 0,zI 0,zI 0,zI 0,zI t.al],zI 0]) (by simp[results,Tryz.results23,scl7 b5,scl7 b3,go_sem]) ⟨⟨b.me,b.rv,x.nx+1,b.mo,b.bo,m,b.ds⟩,⟨x.nx,0,0,0,0,0,t.al⟩,J,I,G,_,rfl,.inr (.inr (.inr (.inr ⟨ae.o,h5,h6,h7,rfl,b8.o,rfl⟩))),b1.o.low (by omega),b0.o⟩
      ·have d7:(x.nx==1048576)=true:=by simp;omega
       have HV:Hid (GrantIs x t m ac0 bi0 20):=.inr (.inr (.inr (.inl ⟨ae.o,h5,h6,h7,rfl,rfl,rfl⟩)));clear h5 h6 h7;have ah:=zy4 u;have aB:=zy5 l;have ag:=zy2 l;go_wp2_with (first|refine zs ?_|refine zw ?_)
       intro O a;obtain⟨z,C,a9,L⟩:=zk4 a l u W a8;have B:=zyb a;have i:Hid (deb.Fresh O w2.heap.size J I G b.ds):=fresh_updN k.o a (λd y f=>by have f1:=k.o.new d y f;have f2:=c.o d y f;omega);have A:=zk a V;have Q:=a.size;clear a;go_wp2_with (first|refine zs ?_|refine zw ?_)
       intro s a;obtain⟨Y,a0,F,Z⟩:=zk4 a z C B L;have E:=zyb a;have X:Hid (deb.Fresh s w2.heap.size J I G b.ds):=fresh_updN i.o a (λd y f=>by have f1:=i.o.new d y f;have f2:=c.o d y f;omega);have D:=zk a A;have H:=a.size;clear a;go_wp2_with fail;exact zr (.tuple #[.agg #[zI 0,zI 0,zI 0,zI 0,zI 0,zI 0,zS],.agg #[zI 0,zI 0,zI 0,zI 0,zI 0,zI 0,zI 0],zI 20]) (by simp[results,Tryz.results23,scl7 F,scl7 E,go_sem]) ⟨ac0,bi0,none,0,0,_,rfl,HV.o,deb.fresh_nil _ _,D.o⟩
   ·have be:(fr != 0)=true:=by simpa using h4
    have HV:Hid (Refused x t m fr):=by
     rcases af with⟨q,_⟩|⟨_,q,r,_⟩|⟨_,_,_,r⟩
     ·exact absurd HM.o q
     ·exact .inr (.inr ⟨HM.o,HT.o,q,r⟩)
     ·exact absurd r h4
    clear af h4;obtain⟨W4,N,a8,n,aN⟩:=sh1 w3 #[zI b.me,zI b.rv,zI b.nx,zI b.mo,zI b.bo,zI b.fr,.slice J I G] 55;obtain⟨l,u,aH,W⟩:=zn4 n.o a5 a7 U a6;have aV:=zh (aF.o.below n.o);have aW:=zh (aG.o.below n.o);have k:=zh (ax.o.below n.o);have V:=shB T n.o;go_upto_region 7 with fail
    rw[N.o];go_wp2_with (first|refine zs ?_|refine zw ?_)
    intro O a;obtain⟨z,C,a9,L⟩:=zk4 a l u W a8;have B:=zyb a;have i:Hid (deb.Fresh O w2.heap.size J I G b.ds):=fresh_updN k.o a (λd y f=>by have f1:=k.o.new d y f;have f2:=c.o d y f;omega);have A:=zk a V;have Q:=a.size;clear a;go_wp2_with (first|refine zs ?_|refine zw ?_)
    intro s a;obtain⟨Y,a0,F,Z⟩:=zk4 a z C B L;have E:=zyb a;have X:Hid (deb.Fresh s w2.heap.size J I G b.ds):=fresh_updN i.o a (λd y f=>by have f1:=i.o.new d y f;have f2:=c.o d y f;omega);have D:=zk a A;have H:=a.size;clear a;go_wp2_with fail;exact zr (.tuple #[.agg #[zI 0,zI 0,zI 0,zI 0,zI 0,zI 0,zS],.agg #[zI 0,zI 0,zI 0,zI 0,zI 0,zI 0,zI 0],zI fr]) (by simp[results,Tryz.results23,scl7 F,scl7 E,go_sem]) ⟨ac0,bi0,none,0,0,_,rfl,.inl ⟨HV.o,rfl,rfl⟩,deb.fresh_nil _ _,D.o⟩
  ·have be:(ft != 0)=true:=by simpa using h0
   have HV:Hid (Refused x t m ft):=.inr (.inl ⟨HM.o,λh=>h0 (aa.ok.2 h),aa⟩);clear aa h0;go_wp2_with (first|refine zs ?_|refine zw ?_)
   intro bu a;obtain⟨a5,a7,a6⟩:=zk3 a ac ad av;have T:=zk a ab;have U:=zyb a;have bh:=a.size;clear a;go_wp2_with (first|refine zs ?_|refine zw ?_)
   intro bn a;obtain⟨bp,bq,aU⟩:=zk3 a a5 a7 U;have aS:=zk a T;have aT:=zyb a;have aQ:=a.size;clear a;go_wp2_with fail;exact zr (.tuple #[.agg #[zI 0,zI 0,zI 0,zI 0,zI 0,zI 0,zS],.agg #[zI 0,zI 0,zI 0,zI 0,zI 0,zI 0,zI 0],zI ft]) (by simp[results,Tryz.results23,scl7 aU,scl7 aT,go_sem]) ⟨ac0,bi0,none,0,0,_,rfl,.inl ⟨HV.o,rfl,rfl⟩,deb.fresh_nil _ _,aS.o⟩
 ·have HM:=zh hm;obtain⟨W0,N,aj,an,am,ak,M,bf⟩:=sh4 w #[zI x.me,zI x.rv,zI x.nx,zI x.mo,zI x.bo,zI x.fr,.slice p len cap] 55 #[.slice pt lt ct,zI t.ff,zI t.fb,zI t.db,zI t.al] 24 #[zI 0,zI 0,zI 0,zI 0,zI 0,zI 0,zS] 55 #[zI 0,zI 0,zI 0,zI 0,zI 0,zI 0,zI 0] 33;have a4:=zh (h.below M.o);have ai:=zh (ht.below M.o);go_enter Tryz.func23,Tryz.ntmps23;go_upto_region 1 with fail
  rw[N.o];have ay:Hid (zC 44 #[.agg #[zI x.me,zI x.rv,zI x.nx,zI x.mo,zI x.bo,zI x.fr,.slice p len cap]] W0 λe w'=>e=.returned (.bool false)∧zB W0 w'):=ranot x p len cap _ a4.o hl hm;go_wp2_with refine zw ?_;refine ay.o.mono ?_;rintro e w1 ⟨rfl,j⟩;obtain⟨aq,au,aD,ar⟩:=zn4 j aj an am ak;have aC:=zh (a4.o.below j);have ap:=zh (ai.o.below j);have ao:=shB M j;have aO:=j.size;clear j;go_wp2_with (first|refine zs ?_|refine zw ?_)
  intro bt a;obtain⟨ac,ad,av⟩:=zk3 a aq au ar;have ab:=zk a ao;have aw:=zyb a;have bg:=a.size;clear a;go_wp2_with (first|refine zs ?_|refine zw ?_)
  intro bm a;obtain⟨a5,a7,U⟩:=zk3 a ac ad aw;have T:=zk a ab;have a6:=zyb a;have aP:=a.size;clear a;go_wp2_with fail;exact zr (.tuple #[.agg #[zI 0,zI 0,zI 0,zI 0,zI 0,zI 0,zS],.agg #[zI 0,zI 0,zI 0,zI 0,zI 0,zI 0,zI 0],zI 5]) (by simp[results,Tryz.results23,scl7 U,scl7 a6,go_sem]) ⟨ac0,bi0,none,0,0,_,rfl,.inl ⟨.inl ⟨HM.o,rfl⟩,rfl,rfl⟩,deb.fresh_nil _ _,T.o⟩
end acc
namespace book
open Go.RowKit
open acc (Ac Tm Bi APost BPost OweIs SellIs GrantIs RekeyIs)
theorem rhap3(a:Ac)(sol:List So)(dp:Option Addr)(dn dc:Nat)(sp:Option Addr)(sn sc:Nat)(t:Tm)(pt:Option Addr)(lt ct:Nat)(v:Ev)(base:Nat)(w:World)(hx:Has w base (cuA a dp dn dc sp sn sc) ⟨a,sol⟩)(ht:tar.RowD w pt lt t.ts)(htl:lt≤maxLen)(hbase:base≤w.heap.size)(hkd:v.kd=3)(hsol:sol.length≤2000000):
  Calls Tryz.prog 85 #[.agg #[.slice pt lt ct,zI t.ff,zI t.fb,zI t.db,zI t.al],.agg #[zI a.me,zI a.rv,zI a.nx,zI a.mo,zI a.bo,zI a.fr,.slice dp dn dc,.slice sp sn sc],.agg #[zI v.kd,zI v.me,zI v.mo,zI v.id,zI v.te,zI v.de,zI v.fe,zI v.pr,zI v.ch,zI v.un,zI v.tg,zI v.ow,zI v.bp]] w λe w'=>HapPost w base t (cuA a dp dn dc sp sn sc) ⟨a,sol⟩ v e w':=by
 have n2:(v.kd==2)=false:=by rw[hkd];rfl
 have n3:(v.kd==3)=true:=by rw[hkd];rfl
 have n4:(v.kd==4)=false:=by rw[hkd];rfl
 have n5:(v.kd==5)=false:=by rw[hkd];rfl
 have au:=zh hkd;have aE:Hid (v.kd≠5):=by show v.kd≠5;rw[hkd];decide
 clear hkd;have bM:Hid (zB w w):=zb;have HH:=zh hx;have aO:=zh hbase;have ab:Hid (∀k,(Value.slice sp sn sc).ownBlock=some k→k<w.heap.size):=λk hk=>(World.ownsRow.lt hx.so k hk).2;have bg:Hid (∀W,zB w W→zC 23 #[.agg #[zI a.me,zI a.rv,zI a.nx,zI a.mo,zI a.bo,zI a.fr,.slice dp dn dc],.agg #[.slice pt lt ct,zI t.ff,zI t.fb,zI t.db,zI t.al],zI v.mo] W λe w'=>BPost W (GrantIs a t v.mo) e w'):=λW hB=>acc.rgranted a dp dn dc t pt lt ct v.mo W (hx.ds.came.below hB).row hx.ds.came.most (ht.below hB) htl;clear hx ht htl hbase;obtain⟨W0,bx,bJ,Qx,Qv,Qr,b9,b6⟩:=sh4 w #[.slice pt lt ct,zI t.ff,zI t.fb,zI t.db,zI t.al] 24 #[zI a.me,zI a.rv,zI a.nx,zI a.mo,zI a.bo,zI a.fr,.slice dp dn dc,.slice sp sn sc] 71 #[zI v.kd,zI v.me,zI v.mo,zI v.id,zI v.te,zI v.de,zI v.fe,zI v.pr,zI v.ch,zI v.un,zI v.tg,zI v.ow,zI v.bp] 44 #[zI 0,zI 0,zI 0,zI 0,zI 0,zI 0,zS,zS] 71;go_enter Tryz.func85,Tryz.ntmps85;go_upto_region 1 with fail
 rw[bx.o];have c:=zh b6;clear b6;have F:=zy0 Qx;have G:=zy1 Qx;have H:=zy2 Qx;have I:=zy3 Qx;have J:=zy4 Qx;have L:=zy5 Qx;have M:=zy6 Qx;have N:=zy7 Qx;have p:=zy0 Qv;have r:=zy1 Qv;have s:=zy2 Qv;have x:=zy3 Qv;have z:=zy4 Qv;have A:=zy5 Qv;have B:=zy6 Qv;have C:=zy7 Qv;have D:=zy8 Qv;have E:=zy9 Qv;have d:=zy10 Qv;have i:=zy11 Qv;have j:=zy12 Qv;obtain⟨W1,bw,bI,Qa,Qb,aP,b7⟩:=sh3 W0 #[zI v.id,zI 0,zI v.un,zI v.tg,zI a.rv] 212 #[zI 0,zI 0,zI 0,zI 0,zI 0,zI 0,zS] 55 #[zI 0,zI 0,zI 0,zI 0,zI 0,zI 0,zI 0] 33;obtain⟨a7,X,n,bE⟩:=zn4 aP.o bJ Qx Qv Qr;have aN:=shB b9 aP.o;have aw:=zh b7;clear b7;go_upto_region 8 with fail
 rw[bw.o];clear F G H I J L M N p r s x z A B C D E d i j;generalize W0.heap.size=gs at *;have P:=zy0 a7;have Q:=zy1 a7;have R:=zy2 a7;have T:=zy3 a7;have V:=zy4 a7;have F:=zy0 X;have G:=zy1 X;have H:=zy2 X;have I:=zy3 X;have J:=zy4 X;have L:=zy5 X;have M:=zy6 X;have N:=zy7 X;have p:=zy0 n;have r:=zy1 n;have s:=zy2 n;have x:=zy3 n;have z:=zy4 n;have A:=zy5 n;have B:=zy6 n;have C:=zy7 n;have D:=zy8 n;have E:=zy9 n;have d:=zy10 n;have i:=zy11 n;have j:=zy12 n;have bf:=zh (bg.o W1 aN.o);go_wp2_with fail;refine bf.o.mono ?_;rintro e w2 ⟨b,l,pb,Z,cb,f,rfl,hi,hf,ac⟩;have HI:=zh hi;obtain⟨aY,b2,b0,bF,aW⟩:=zn5 ac a7 X n bE bI;obtain⟨bz,bC⟩:=zn2 ac Qa Qb;have ba:=shB aN ac;have aC:=zh hf;have bt:=zh ac.size;clear ac hf hi P Q R T V F G H I J L M N p r s x z A B C D E d i j;unfold acc.Ac.v acc.Ac.cs acc.Bi.v;obtain⟨P,Q,R,T,V⟩:=scl5 aY;obtain⟨F,G,H,I,J,L,M,N⟩:=scl8 b2;obtain⟨p,r,s,x,z,A,B,C,D,E,d,i,j⟩:=scl13 b0;obtain⟨a1,a2,a3,a4,a5⟩:=scl5 aW;go_wp2_with (first|(refine zql rfl rfl rfl rfl zqu55 (by simp[Value.oneCell']) bz rfl ?_)|fail)
 intro w3 m;have aZ:=zyk m aY (by have:=c.o;omega);have b3:=zyk m b2 (by have:=c.o;omega);have b1:=zyk m b0 (by have:=c.o;omega);have bG:=zyk m bF (by have:=c.o;omega);have aX:=zyk m aW (by have:=c.o;omega);have bA:=zyb m;have bD:=zyk m bC (by have:=c.o;omega);have be:Hid (zB w w3):=m.bel _ _ (by have:=c.o;omega) ba.o;have aD:Hid (deb.Fresh w3 W1.heap.size pb Z cb b.ds):=⟨acc_upd aC.o.came m (λhn y hy q=>by have h1:=aC.o.new hn y hy;have h2:=aw.o;omega),aC.o.new⟩
 have bu:Hid (w2.heap.size=w3.heap.size):=m.size.symm;clear m P Q R T V F G H I J L M N p r s x z A B C D E d i j a1 a2 a3 a4 a5;obtain⟨P,Q,R,T,V⟩:=scl5 aZ;obtain⟨F,G,H,I,J,L,M,N⟩:=scl8 b3;obtain⟨p,r,s,x,z,A,B,C,D,E,d,i,j⟩:=scl13 b1;obtain⟨a1,a2,a3,a4,a5⟩:=scl5 aX;go_wp2_with (first|(refine zql rfl rfl rfl rfl zqu33 (by simp[Value.oneCell']) bD rfl ?_)|fail)
 intro w4 m;have aL:=zyk m aZ (by have:=c.o;omega);have ax:=zyk m b3 (by have:=c.o;omega);have aM:=zyk m b1 (by have:=c.o;omega);have bH:=zyk m bG (by have:=c.o;omega);have aK:=zyk m aX (by have:=c.o;omega);have bB:=zyk m bA (by have:=c.o;omega);have aJ:=zyb m;have az:Hid (zB w w4):=m.bel _ _ (by have:=c.o;omega) be.o;have bh:Hid (deb.Fresh w4 W1.heap.size pb Z cb b.ds):=⟨acc_upd aD.o.came m (λhn y hy q=>by have h1:=aD.o.new hn y hy;have h2:=aw.o;omega),aD.o.new⟩
 have bv:Hid (w3.heap.size=w4.heap.size):=m.size.symm;clear m P Q R T V F G H I J L M N p r s x z A B C D E d i j a1 a2 a3 a4 a5;have a6:Hid (w.heap.size≤W1.heap.size):=by have h1:=aw.o;have h2:=c.o;show _≤_;omega
 have br:Hid (W1.heap.size≤w4.heap.size):=by show _≤_;have:=bt.o;have:=bu.o;have:=bv.o;omega
 by_cases a8:f=0
 ·have aR:Hid (f=0):=a8;have nf:(f != 0)=false:=by simpa using a8
  clear a8;by_cases a9:l=billOf v
  ·have aF:Hid (l=billOf v):=a9;have qe:∀wz:World,(Op.equalIn 10000 33 (.agg #[zI l.id,zI l.te,zI l.de,zI l.fe,zI l.pr,zI l.ch,zI l.un]) (.agg #[zI v.id,zI v.te,zI v.de,zI v.fe,zI v.pr,zI v.ch,zI v.un])).run Tryz.prog wz=.ok true wz:=λwz=>by rw[a9,show (10000:Nat)=9998+2 from rfl,eqBi];unfold billOf;simp
   clear a9;obtain⟨P,Q,R,T,V⟩:=scl5 aL;obtain⟨F,G,H,I,J,L,M,N⟩:=scl8 ax;obtain⟨p,r,s,x,z,A,B,C,D,E,d,i,j⟩:=scl13 aM;obtain⟨af,ag,ah,ai,aj,ak,am⟩:=scl7 aJ;go_upto_region 20 with fail
   clear P Q R T V F G H I J L M N p r s x z A B C D E d i j af ag ah ai aj ak am;have aH:Hid ((λu:World=>Blk u (gs+1) #[zI b.me,zI b.rv,zI b.nx,zI b.mo,zI b.bo,zI b.fr,.slice pb Z cb] 55∧Blk u (w.heap.size+1) #[zI a.me,zI a.rv,zI a.nx,zI a.mo,zI a.bo,zI a.fr,.slice dp dn dc,.slice sp sn sc] 71∧Blk u gs #[zI v.id,zI 0,zI v.un,zI v.tg,zI a.rv] 212) w4.drew):=⟨bB.o,ax.o,aK.o⟩
   refine wp_region_held_drew (S:=(λu:World=>Blk u (gs+1) #[zI b.me,zI b.rv,zI b.nx,zI b.mo,zI b.bo,zI b.fr,.slice pb Z cb] 55∧Blk u (w.heap.size+1) #[zI a.me,zI a.rv,zI a.nx,zI a.mo,zI a.bo,zI a.fr,.slice dp dn dc,.slice sp sn sc] 71∧Blk u gs #[zI v.id,zI 0,zI v.un,zI v.tg,zI a.rv] 212)) (by kernel_rfl) aH.o (λY=>?_);refine zu' 0 (.agg #[zI b.me,zI b.rv,zI b.nx,zI b.mo,zI b.bo,zI b.fr,.slice pb Z cb]) rfl rfl (yieldsIf_whole (by rfl) 55 _ rfl (gs+1) rfl 55 #[zI b.me,zI b.rv,zI b.nx,zI b.mo,zI b.bo,zI b.fr,.slice pb Z cb] _ (λu hu=>hu.1) Tryz.underlying55 rfl (by kernel_rfl)) ?_;refine zt' 1 (.pointer (some ⟨w.heap.size+1,7,none⟩)) ?_;refine zu' 2 (.slice sp sn sc) rfl rfl (Or.inl ⟨by rfl,λv hv=>by have h2:=hv.2.1.cell 7;clear hv;go_simp⟩) ?_;refine zu' 3 (.agg #[zI v.id,zI 0,zI v.un,zI v.tg,zI a.rv]) rfl rfl (yieldsIf_whole (by rfl) 212 _ rfl (gs) rfl 212 #[zI v.id,zI 0,zI v.un,zI v.tg,zI a.rv] _ (λu hu=>hu.2.2) Tryz.underlying212 rfl (by kernel_rfl)) ?_;have an:Hid (Blk w4.drew (gs+1) #[zI b.me,zI b.rv,zI b.nx,zI b.mo,zI b.bo,zI b.fr,.slice pb Z cb] 55∧Blk w4.drew (w.heap.size+1) #[zI a.me,zI a.rv,zI a.nx,zI a.mo,zI a.bo,zI a.fr,.slice dp dn dc,.slice sp sn sc] 71∧Blk w4.drew gs #[zI v.id,zI 0,zI v.un,zI v.tg,zI a.rv] 212):=aH.o;have aT:Hid (Blk w4.drew (w.heap.size+1+1+1) #[zI 0,zI 0,zI 0,zI 0,zI 0,zI 0,zS,zS] 71):=bH.o;have aa:Hid (zB w w4.drew):=az.o.drew;have aQ:Hid (deb.Fresh w4.drew W1.heap.size pb Z cb b.ds):=drew_fresh bh.o;have aV:Hid (W1.heap.size≤w4.drew.heap.size):=br.o;have aS:Hid (Lo w4.drew base (.slice sp sn sc) sol):=HH.o.so.next aa.o;clear aH;generalize w4.drew=U at *;refine zo 4 λK hK=>?_;rw[if_pos (by rfl)];have ap:Hid (Blk (U.alloc (.cells #[zI v.id,zI 0,zI v.un,zI v.tg,zI a.rv] 212)) (gs+1) #[zI b.me,zI b.rv,zI b.nx,zI b.mo,zI b.bo,zI b.fr,.slice pb Z cb] 55∧Blk (U.alloc (.cells #[zI v.id,zI 0,zI v.un,zI v.tg,zI a.rv] 212)) (w.heap.size+1) #[zI a.me,zI a.rv,zI a.nx,zI a.mo,zI a.bo,zI a.fr,.slice dp dn dc,.slice sp sn sc] 71∧Blk (U.alloc (.cells #[zI v.id,zI 0,zI v.un,zI v.tg,zI a.rv] 212)) gs #[zI v.id,zI 0,zI v.un,zI v.tg,zI a.rv] 212):=⟨an.o.1.alloc _,an.o.2.1.alloc _,an.o.2.2.alloc _⟩
   have aU:=zya aT (.cells #[zI v.id,zI 0,zI v.un,zI v.tg,zI a.rv] 212);have aA:=zyf aa (.cells #[zI v.id,zI 0,zI v.un,zI v.tg,zI a.rv] 212);have aq:Hid (deb.Fresh (U.alloc (.cells #[zI v.id,zI 0,zI v.un,zI v.tg,zI a.rv] 212)) W1.heap.size pb Z cb b.ds):=aQ.o.below (zb.alloc zc _);have bl:Hid (Lo (U.alloc (.cells #[zI v.id,zI 0,zI v.un,zI v.tg,zI a.rv] 212)) base (.slice sp sn sc) sol):=aS.o.alloc _;have bm:=zye U #[zI v.id,zI 0,zI v.un,zI v.tg,zI a.rv] 212;have bN:Hid (W1.heap.size≤(U.alloc (.cells #[zI v.id,zI 0,zI v.un,zI v.tg,zI a.rv] 212)).heap.size):=cell.alloc_le aV.o _;refine wp_runOp (v:=.slice (some ⟨U.heap.size,0,none⟩) 1 1) (w':=(U.alloc (.cells #[zI v.id,zI 0,zI v.un,zI v.tg,zI a.rv] 212))) 100 rfl (by clear hK;go_simp) ?_;refine hK.o _ _ ap.o (λY=>?_);clear hK an aT aa aQ aS aV;simp only[Act.put,zq];generalize U.heap.size=gn at *;generalize U.alloc _=U2 at *;refine zo 5 λK hK=>?_;rw[if_pos (by rfl)];have bq:Hid (w.heap.size+1+1+1<U2.heap.size):=aU.o.lt;refine step_sold 101 rfl _ _ rfl base gn _ sol ⟨v.id,0,v.un,v.tg,a.rv⟩ rfl rfl bl.o bm.o hsol (Nat.le_trans aO.o aA.o.size) ?_;intro v3 w9 h3 ay b5;obtain⟨p3,c3,rfl,_,_,_⟩:=h3.row;have ae:∀g,w.heap.size≤g→some g≠(Value.slice sp sn sc).ownBlock:=λg hg q=>by have:=ab.o g q.symm;omega
   have ad:∀g cs ty,w.heap.size≤g→Blk U2 g cs ty→Blk w9 g cs ty:=λg cs ty hg hb=>by show w9.heap[g]?=_;rw[ay.block g hb.lt (ae g hg)];exact hb
   have ao:Hid (Blk w9 (gs+1) #[zI b.me,zI b.rv,zI b.nx,zI b.mo,zI b.bo,zI b.fr,.slice pb Z cb] 55∧Blk w9 (w.heap.size+1) #[zI a.me,zI a.rv,zI a.nx,zI a.mo,zI a.bo,zI a.fr,.slice dp dn dc,.slice sp sn sc] 71∧Blk w9 gs #[zI v.id,zI 0,zI v.un,zI v.tg,zI a.rv] 212):=⟨ad _ _ _ (by have:=c.o;omega) ap.o.1,ad _ _ _ (by omega) ap.o.2.1,ad _ _ _ (by have:=c.o;omega) ap.o.2.2⟩
   have bn:Hid (Blk w9 (w.heap.size+1+1+1) #[zI 0,zI 0,zI 0,zI 0,zI 0,zI 0,zS,zS] 71):=ad _ _ _ (by omega) aU.o;have bj:Hid (w.grownBy w9 (Value.slice sp sn sc).ownBlock):=(grown_of aA.o _).trans ay;have bi:Hid (tar.Came w9 pb Z cb b.ds):=came_grown aq.o.came ay (λhn y hy=>ae _ (Nat.le_trans a6.o (aq.o.new hn y hy)));have ar:Hid (0<Z→∀y,pb=some y→W1.heap.size≤y.block∧y.block<U2.heap.size):=λhn y hy=>⟨aq.o.new hn y hy,by obtain⟨bb,oo,e,bL,_⟩:=aq.o.came.row.at hn;rw[hy] at e;rw[Option.some.inj e];exact bL⟩;have bk:=zh h3;have aG:=zh b5;have bs:=zh aA.o.size;refine hK.o _ _ ao.o (λY=>?_);clear hK h3 ay b5 ae ad;simp only[Act.put,zq];generalize (sol++[(⟨v.id,0,v.un,v.tg,a.rv⟩:So)]).length=n3 at *;refine zt' 6 (.agg #[zI b.me,zI b.rv,zI b.nx,zI b.mo,zI b.bo,zI b.fr,.slice pb Z cb,.slice p3 n3 c3]) ?_;refine zo 7 λK hK=>?_;rw[if_pos (by rfl)];refine wp_letOp 71 _ _ rfl (w.heap.size+1+1+1) rfl #[zI b.me,zI b.rv,zI b.nx,zI b.mo,zI b.bo,zI b.fr,.slice pb Z cb,.slice p3 n3 c3] rfl (by kernel_rfl) (by simp[Value.oneCell']) #[zI 0,zI 0,zI 0,zI 0,zI 0,zI 0,zS,zS] 71 bn.o rfl rfl ?_;intro WF m;have O:=zyb m;have aI:=zh m;have b8:Hid (Blk WF (gs+1) #[zI b.me,zI b.rv,zI b.nx,zI b.mo,zI b.bo,zI b.fr,.slice pb Z cb] 55∧Blk WF (w.heap.size+1) #[zI a.me,zI a.rv,zI a.nx,zI a.mo,zI a.bo,zI a.fr,.slice dp dn dc,.slice sp sn sc] 71∧Blk WF gs #[zI v.id,zI 0,zI v.un,zI v.tg,zI a.rv] 212):=⟨m.keep ao.o.1 (by have:=c.o;omega),m.keep ao.o.2.1 (by omega),m.keep ao.o.2.2 (by have:=c.o;omega)⟩
   refine hK.o _ _ b8.o (λY=>?_);clear hK m;refine zt' 8 (zI 0) ?_;refine wpAnyH_done (by kernel_rfl) ?_ _;clear Y
   have a0:Hid (HapPost w base t (cuA a dp dn dc sp sn sc) ⟨a,sol⟩ v (.returned (.tuple #[.agg #[zI b.me,zI b.rv,zI b.nx,zI b.mo,zI b.bo,zI b.fr,.slice pb Z cb,.slice p3 n3 c3],zI 0])) WF):=by
    have b4:=grown_upd bj.o aI.o (by omega);have bK:soldOf ⟨a,sol⟩ v=⟨v.id,0,v.un,v.tg,a.rv⟩:=by unfold soldOf;rw[if_neg (by rw[au.o];decide)]
    refine⟨cuA b pb Z cb p3 n3 c3,⟨b,sol++[soldOf ⟨a,sol⟩ v]⟩,0,rfl,.inr ⟨aE.o,b,l,f,.inr (.inl ⟨au.o,HI.o⟩),.inr (.inr ⟨aR.o,aF.o,rfl,rfl⟩)⟩,λ_=>?_,b4⟩;rw[bK];refine⟨b4,⟨cuA_num _ _ _ _ _ _ _,⟨acc_upd bi.o aI.o (λhn y hy q=>by have h1:=(ar.o hn y hy).1;have h2:=aw.o;have h3:=c.o;omega),λhn y hy=>by have h1:=(ar.o hn y hy).1;have h2:=a6.o;have h3:=aO.o;omega⟩,lo_upd bk.o aI.o (λg hg q=>?_)⟩,λg hg=>?_,λhn y hy=>Nat.le_trans a6.o (ar.o hn y hy).1,λg hg hn y hy q=>?_⟩
    ·have h0:(Value.slice p3 n3 c3).ownBlock=some g:=hg;rcases aG.o with e|e
     ·rw[e] at h0;have:=ab.o g h0;omega
     ·rw[e] at h0;have h1:=Option.some.inj h0;have h2:=bq.o;omega
    ·rcases aG.o with e|e
     ·exact .inl (e.symm.trans hg)
     ·refine .inr ?_;have h0:(Value.slice p3 n3 c3).ownBlock=some g:=hg;rw[e] at h0;have h1:=Option.some.inj h0;have h2:=bs.o;omega
    ·have h0:(Value.slice p3 n3 c3).ownBlock=some g:=hg;have h1:=ar.o hn y hy;rcases aG.o with e|e
     ·rw[e] at h0;have h2:=ab.o g h0;have h3:=a6.o;omega
     ·rw[e] at h0;have h2:=Option.some.inj h0;omega
   go_wp2_with fail;exact zr (.tuple #[.agg #[zI b.me,zI b.rv,zI b.nx,zI b.mo,zI b.bo,zI b.fr,.slice pb Z cb,.slice p3 n3 c3],zI 0]) (by simp[results,Tryz.results85,zy0 O,zy1 O,zy2 O,zy3 O,zy4 O,zy5 O,zy6 O,zy7 O,go_sem]) a0.o
  ·have aF:=zh a9;have qe:∀wz:World,(Op.equalIn 10000 33 (.agg #[zI l.id,zI l.te,zI l.de,zI l.fe,zI l.pr,zI l.ch,zI l.un]) (.agg #[zI v.id,zI v.te,zI v.de,zI v.fe,zI v.pr,zI v.ch,zI v.un])).run Tryz.prog wz=.ok false wz:=λwz=>by rw[show (10000:Nat)=9998+2 from rfl,eqBi];exact congrArg (λq=>Result.ok q wz) (decide_eq_false (bill_ne a9))
   clear a9;have av:Hid (¬ (8:Int)=0):=by show ¬ (8:Int)=0;decide
   obtain⟨P,Q,R,T,V⟩:=scl5 aL;obtain⟨F,G,H,I,J,L,M,N⟩:=scl8 ax;obtain⟨p,r,s,x,z,A,B,C,D,E,d,i,j⟩:=scl13 aM;obtain⟨a1,a2,a3,a4,a5⟩:=scl5 aK;obtain⟨af,ag,ah,ai,aj,ak,am⟩:=scl7 aJ;go_wp2_with refine zs ?_;intro WF m;have O:=zyb m;have aB:=zk m az;clear m P Q R T V F G H I J L M N p r s x z A B C D E d i j a1 a2 a3 a4 a5 af ag ah ai aj ak am;have a0:Hid (HapPost w base t (cuA a dp dn dc sp sn sc) ⟨a,sol⟩ v (.returned (.tuple #[.agg #[zI 0,zI 0,zI 0,zI 0,zI 0,zI 0,zS,zS],zI 8])) WF):=⟨cu0,cm0,8,rfl,.inr ⟨aE.o,b,l,f,.inr (.inl ⟨au.o,HI.o⟩),.inr (.inl ⟨aR.o,aF.o,rfl⟩)⟩,λh=>absurd h av.o,grown_of aB.o _⟩
   go_wp2_with fail;exact zr (.tuple #[.agg #[zI 0,zI 0,zI 0,zI 0,zI 0,zI 0,zS,zS],zI 8]) (by simp[results,Tryz.results85,scl8 O,go_sem]) a0.o
 ·have av:=zh a8;have nf:(f != 0)=true:=by simpa using a8
  clear a8;obtain⟨P,Q,R,T,V⟩:=scl5 aL;obtain⟨F,G,H,I,J,L,M,N⟩:=scl8 ax;obtain⟨p,r,s,x,z,A,B,C,D,E,d,i,j⟩:=scl13 aM;obtain⟨a1,a2,a3,a4,a5⟩:=scl5 aK;obtain⟨af,ag,ah,ai,aj,ak,am⟩:=scl7 aJ;go_wp2_with refine zs ?_;intro WF m;have O:=zyb m;have aB:=zk m az;clear m P Q R T V F G H I J L M N p r s x z A B C D E d i j a1 a2 a3 a4 a5 af ag ah ai aj ak am;have a0:Hid (HapPost w base t (cuA a dp dn dc sp sn sc) ⟨a,sol⟩ v (.returned (.tuple #[.agg #[zI 0,zI 0,zI 0,zI 0,zI 0,zI 0,zS,zS],zI f])) WF):=⟨cu0,cm0,f,rfl,.inr ⟨aE.o,b,l,f,.inr (.inl ⟨au.o,HI.o⟩),.inl ⟨av.o,rfl⟩⟩,λh=>absurd h av.o,grown_of aB.o _⟩
  go_wp2_with fail;exact zr (.tuple #[.agg #[zI 0,zI 0,zI 0,zI 0,zI 0,zI 0,zS,zS],zI f]) (by simp[results,Tryz.results85,scl8 O,go_sem]) a0.o
open acc (TFault TRight OpenIs wf6 ACame TCame)
theorem wf_i{z:Int}(h0:-1≤z)(h1:z≤4000000000):(Lit.int .i64 z).wf=true:=by
 have h1:IntKind.i64.min≤z:=by
  have e:IntKind.i64.min=-9223372036854775808:=by decide
  omega
 have a:z≤IntKind.i64.max:=by
  have e:IntKind.i64.max=9223372036854775807:=by decide
  omega
 show (decide (IntKind.i64.min≤z)&&decide (z≤IntKind.i64.max))=true;rw[Bool.and_eq_true];exact⟨decide_eq_true h1,decide_eq_true a⟩
theorem may_wf{a:Ac}(h:acc.AMay a):wf6 a:=by
 obtain⟨_,⟨b,c⟩,⟨d,e⟩,⟨c1,c2⟩,⟨f,g⟩,⟨i,j⟩,k,l⟩:=h;exact⟨wf_i (by omega) (by omega),wf_i (by omega) (by omega),wf_i (by omega) (by omega),wf_i (by omega) (by omega),wf_i (by omega) (by omega),wf_i (by omega) (by omega)⟩
def AWf(bk:List Cm):Prop:=∀c∈bk,wf6 c.a
theorem owe_wf{a b:Ac}{d:tar.Du}(h:OweIs a d b 0):wf6 b∧b.me=a.me:=by
 rcases h with⟨_,_,e⟩|⟨_,_,_,e⟩|⟨_,_,_,_,e⟩|⟨p,_,_,rfl,_⟩
 ·cases e
 ·cases e
 ·cases e
 ·have h:=may_wf p;exact⟨⟨h.1,h.2.1,h.2.2.1,h.2.2.2.1,h.2.2.2.2.1,h.2.2.2.2.2⟩,rfl⟩
variable{base gW B:Nat}{bk:List Cm}{w w':World}{xs:List Cu}{pt:Option Addr}{a:Option Addr}{lt ct:Nat}{t:Tm}{w0:World}{V:Value}{c:Cm}{v:Ev}
theorem tells_wf{b:Ac}{l:Bi}(h:Tells t c v b l 0)(hl:l.un≤2097151)(hl0:0≤l.un):wf6 b∧b.me=c.a.me:=by
 rcases h with⟨_,h⟩|⟨_,h⟩|⟨_,h⟩
 ·rcases h with⟨p,_,_⟩|⟨_,_,e,_⟩|⟨_,_,_,e,_⟩|⟨d,_,_,_,u,_,rfl,rfl⟩
  ·exact absurd rfl (fun (q:(0:Int)=0)=>by
    rcases p with⟨_,p⟩|⟨_,p,f⟩|⟨_,_,_,p⟩
    ·cases p
    ·exact p (f.ok.1 rfl)
    ·exact p.ne rfl)
  ·cases e
  ·cases e
  ·obtain⟨_,⟨g,i⟩,⟨j,k⟩,⟨c1,c2⟩,⟨m,n⟩,⟨o,r⟩,s,x⟩:=d.1;obtain⟨_,_,_,_,⟨D,E⟩,⟨B,C⟩,_⟩:=acc.rolled_may d.1 d.2.2;have y:=d.2.2.1;have F:u≤2097151:=hl;have A:0≤u:=hl0;refine⟨⟨wf_i (z:=c.a.me) (by omega) (by omega),wf_i (z:=c.a.rv) (by omega) (by omega),wf_i (z:=c.a.nx+1) (by omega) (by omega),wf_i (z:=v.mo) (by omega) (by omega),wf_i (z:=(acc.rolled c.a v.mo).bo+u) (by omega) (by omega),wf_i (z:=c.a.fr) (by omega) (by omega)⟩,rfl⟩
 ·rcases h with⟨p,_,_⟩|⟨_,_,e,_⟩|⟨_,_,_,e,_⟩|⟨_,_,_,_,e,_⟩|⟨d,_,_,_,_,rfl,_⟩
  ·exact absurd rfl (fun (q:(0:Int)=0)=>by
    rcases p with⟨_,p⟩|⟨_,p,f⟩|⟨_,_,_,p⟩
    ·cases p
    ·exact p (f.ok.1 rfl)
    ·exact p.ne rfl)
  ·cases e
  ·cases e
  ·cases e
  ·obtain⟨_,⟨g,i⟩,⟨j,k⟩,⟨c1,c2⟩,⟨m,n⟩,⟨o,r⟩,s,x⟩:=d.1;obtain⟨_,_,_,_,⟨D,E⟩,⟨B,C⟩,_⟩:=acc.rolled_may d.1 d.2.2;have y:=d.2.2.1;exact⟨⟨wf_i (z:=c.a.me) (by omega) (by omega),wf_i (z:=c.a.rv) (by omega) (by omega),wf_i (z:=c.a.nx+1) (by omega) (by omega),wf_i (z:=v.mo) (by omega) (by omega),wf_i (z:=(acc.rolled c.a v.mo).bo) (by omega) (by omega),wf_i (z:=v.mo) (by omega) (by omega)⟩,rfl⟩
 ·rcases h with⟨_,_,_,e⟩|⟨_,_,_,_,e⟩|⟨_,_,_,_,_,e⟩|⟨d,_,_,rfl,_,_⟩
  ·cases e
  ·cases e
  ·cases e
  ·obtain⟨_,⟨g,i⟩,⟨j,k⟩,⟨c1,c2⟩,⟨m,n⟩,⟨o,r⟩,s,x⟩:=d;exact⟨⟨wf_i (z:=c.a.me) (by omega) (by omega),wf_i (z:=c.a.rv+1) (by omega) (by omega),wf_i (z:=c.a.nx+1) (by omega) (by omega),wf_i (z:=c.a.mo) (by omega) (by omega),wf_i (z:=c.a.bo) (by omega) (by omega),wf_i (z:=c.a.fr) (by omega) (by omega)⟩,rfl⟩
theorem may_un(h:EMay v):0≤v.un∧v.un≤2097151:=by
 unfold EMay at h;omega
theorem hap_wf{c c':Cm}(h:HapIs t c v c' 0)(hm:EMay v):wf6 c'.a∧c'.a.me=c.a.me:=by
 rcases h with⟨_,b,q,r⟩|⟨_,b,l,e,q,r⟩
 ·rw[r rfl];exact owe_wf q
 ·rcases r with⟨x,y⟩|⟨_,_,y⟩|⟨x,y,_,rfl⟩
  ·exact absurd y.symm x
  ·cases y
  ·subst x;subst y;exact tells_wf q (may_un hm).2 (may_un hm).1
theorem getD_in{j:Nat}(h:j<bk.length):bk.getD j cm0∈bk:=getD_mem h
theorem AWf.set{k:Nat}(h:AWf bk)(hc:wf6 c.a):AWf (bk.set k c):=λx d=>by
 rcases List.mem_or_eq_of_mem_set d with b|rfl
 ·exact h x b
 ·exact hc
theorem AWf.snoc(h:AWf bk)(hc:wf6 c.a):AWf (bk++[c]):=λx d=>by
 rcases List.mem_append.1 d with b|b
 ·exact h x b
 ·rw[List.mem_singleton.1 b];exact hc
def wrc(V:Value)(t:Tm)(pt:Option Addr)(lt ct B:Nat):Array Value:=#[V,.slice pt lt ct,zI t.ff,zI t.fb,zI t.db,zI t.al,.map (some B)]
structure Kp (base gW B:Nat) (w w':World):Prop where
 os:w'.os=w.os
 tape:w'.tape=w.tape
 output:w'.output=w.output
 size:w.heap.size≤w'.heap.size
 block:∀k,k<base→k≠gW→k≠B→w'.heap[k]?=w.heap[k]?
theorem Kp.refl(base gW B:Nat)(w:World):Kp base gW B w w:=⟨rfl,rfl,rfl,zc,λ_ _ _ _=>rfl⟩
theorem Kp.trans{a b c:World}(h:Kp base gW B a b)(k:Kp base gW B b c):Kp base gW B a c:=⟨k.os.trans h.os,k.tape.trans h.tape,k.output.trans h.output,Nat.le_trans h.size k.size,λi d e f=>(k.block i d e f).trans (h.block i d e f)⟩
theorem Kp.of{base gW B n:Nat}{a b:World}(h:Below n a b)(hn:base≤n):Kp base gW B a b:=⟨h.os,h.tape,h.output,h.size,λi c _ _=>h.block i (by omega)⟩
theorem Kp.bel{base gW B n:Nat}{a b c:World}(k:Kp base gW B b c)(h:Below n a b)(hn:n≤base)(h1:n≤gW)(h2:n≤B):Below n a c:=⟨k.os.trans h.os,k.tape.trans h.tape,k.output.trans h.output,Nat.le_trans h.size k.size,λi d=>(k.block i (by omega) (by omega) (by omega)).trans (h.block i d)⟩
theorem Kp.keep{base gW B G:Nat}{a b:World}{cs:Array Value}{t:TypeId}(k:Kp base gW B a b)(h:Blk a G cs t)(h0:G<base)(h1:G≠gW)(h2:G≠B):Blk b G cs t:=by
 unfold Blk at *;rw[k.block G h0 h1 h2];exact h
theorem Kp.upd{base gW B g:Nat}{a b:World}{cs:Array Value}{t:TypeId}(hU:Upd a b g cs t)(hg:base≤g∨g=gW):Kp base gW B a b:=by
 have h:=hU.bel 0 a (Nat.zero_le _) zb;exact⟨h.os,h.tape,h.output,h.size,λk c d _=>hU.oth k (by omega)⟩
theorem Kp.grown{a b:World}{own:Option Nat}(hg:a.grownBy b own)(hs:base≤a.heap.size)(ho:∀g,own=some g→base≤g):Kp base gW B a b:=⟨hg.os,hg.tape,hg.output,hg.size,λk c _ _=>hg.block k (by omega) (λe=>by have:=ho k e.symm;omega)⟩
structure Wr (w0:World) (base gW B:Nat) (t:Tm) (pt:Option Addr) (lt ct:Nat) (V:Value) (xs:List Cu) (bk:List Cm) (w:World):Prop where
 blk:Blk w gW (wrc V t pt lt ct B) 170
 mp:MpI w B (mes bk)
 hold:Holds w base V xs bk
 gw:gW<base
 gb:B<base
 ne:gW≠B
 n0:w0.heap.size≤gW
 n1:w0.heap.size≤B
 sz:base≤w.heap.size
 bel:zB w0 w
 few:Small bk 120
 wf:AWf bk
theorem Wr.next(h:Wr w0 base gW B t pt lt ct V xs bk w)(hb:zB w w'):Wr w0 base gW B t pt lt ct V xs bk w':=
 ⟨h.blk.next hb,h.mp.below hb,h.hold.next hb,h.gw,h.gb,h.ne,h.n0,h.n1,Nat.le_trans h.sz hb.size,h.bel.trans (hb.mono h.bel.size),h.few,h.wf⟩
theorem Wr.kp(h:Wr w0 base gW B t pt lt ct V xs bk w)(hb:zB w w'):Kp base gW B w w':=.of hb h.sz
def WPost(w0:World)(base gW B:Nat)(t:Tm)(pt:Option Addr)(lt ct:Nat)(R:List Cm→Int→Prop)(w:World)(e:Ending)(w':World):Prop:=
 Kp base gW B w w'∧((∃V xs bk',e=.returned (.tuple #[])∧R bk' 0∧(Small bk' 120→Wr w0 base gW B t pt lt ct V xs bk' w'))∨∃f bk',f≠0∧e=.panicked (thrown f)∧R bk' f)
theorem WPost.back{R R':List Cm→Int→Prop}{w1 w:World}{e:Ending}{w':World}(h:WPost w0 base gW B t pt lt ct R w e w')(hk:Kp base gW B w1 w)(hR:∀b f,R b f→R' b f):WPost w0 base gW B t pt lt ct R' w1 e w':=by
 refine⟨hk.trans h.1,?_⟩;rcases h.2 with⟨V,i,a,c,d,g⟩|⟨f,a,c,d,g⟩
 ·exact .inl ⟨V,i,a,c,hR _ _ d,g⟩
 ·exact .inr ⟨f,a,c,d,hR _ _ g⟩
theorem rowD_same{n:Nat}{zs:List tar.Du}(h:tar.RowD w a n zs)(he:0<n→∀x,a=some x→w'.heap[x.block]?=w.heap[x.block]?):tar.RowD w' a n zs:=by
 refine⟨h.1,?_⟩;rcases h.2 with d|⟨b,c,rfl,j⟩
 ·exact .inl d
 ·refine .inr ⟨b,c,rfl,λi k=>?_⟩;have f:=j i k;have g:w'.heap[b]?=w.heap[b]?:=he (by omega) _ rfl;have e:∀o,w'.cell? ⟨b,o,none⟩=w.cell? ⟨b,o,none⟩:=λo=>by simp[World.cell?,g]
  rw[e,e];exact f
theorem came_same{n cap:Nat}{zs:List tar.Du}(h:tar.Came w a n cap zs)(he:0<n→∀x,a=some x→w'.heap[x.block]?=w.heap[x.block]?):tar.Came w' a n cap zs:=⟨rowD_same h.row he,h.nil,h.room,h.bytes,h.wf⟩
theorem lo_same{base:Nat}{v:Value}{l:List So}(h:Lo w base v l)(he:∀g,v.ownBlock=some g→w'.heap[g]?=w.heap[g]?):Lo w' base v l:=by
 refine⟨h.1,?_⟩;rcases h.2 with i|⟨c,a,b,d,e,f,rest⟩
 ·exact .inl i
 ·exact .inr ⟨c,a,b,d,e,by rw[he c (by rw[d];rfl)];exact f,rest⟩
theorem Has.same{base:Nat}{x:Cu}(h:Has w base x c)(h1:∀g,x.sold.ownBlock=some g→w'.heap[g]?=w.heap[g]?)(h2:0<x.dn→∀p,x.dp=some p→w'.heap[p.block]?=w.heap[p.block]?):Has w' base x c:=⟨h.num,⟨came_same h.ds.came h2,h.ds.new⟩,lo_same h.so h1⟩
theorem Holds.put2{w w4:World}{base:Nat}{k:Nat}{x':Cu}{c':Cm}(h:Holds w base V xs bk)(hk:k<xs.length)
  (hO:∀g,g<w.heap.size→V.ownBlock≠some g→(xs.getD k cu0).sold.ownBlock≠some g→w4.heap[g]?=w.heap[g]?) (has:Has w4 base x' c')
  (own:∀g,x'.sold.ownBlock=some g→(xs.getD k cu0).sold.ownBlock=some g∨w.heap.size≤g) (new:0<x'.dn→∀p,x'.dp=some p→w.heap.size≤p.block) (self:∀g,x'.sold.ownBlock=some g→0<x'.dn→∀p,x'.dp=some p→p.block≠g)
  (hr:Lc w4 base V (xs.set k x')):Holds w4 base V (xs.set k x') (bk.set k c'):=by
 have A:k<bk.length:=by rw[← h.len];exact hk
 have m:∀i,i<xs.length→∀g,(xs.getD i cu0).sold.ownBlock=some g→g<w.heap.size:=λi a g f=>(World.ownsRow.lt (h.has i a).so g f).2
 have r:∀i,i<xs.length→0<(xs.getD i cu0).dn→∀p,(xs.getD i cu0).dp=some p→p.block<w.heap.size:=λi a c p d=>by
  obtain⟨b,E,e,D,_⟩:=(h.has i a).ds.came.row.at c;rw[d] at e;rw[Option.some.inj e];exact D
 have s:∀g,V.ownBlock=some g→g<w.heap.size:=λg f=>(World.ownsRow.lt h.row g f).2
 have t:Off x' V.ownBlock:=⟨fun g f q=>by
  rcases own g f with e|e
  ·exact(h.off k hk).1 g e q
  ·have:=s g q;omega,λc p d q=>by
  have l:=new c p d;have C:=s p.block q.symm
  omega⟩
 have n:∀i,i<xs.length→i≠k→Apart (xs.getD i cu0) x':=λi a o=>by
  refine⟨λg l C=>?_,λg l c p d q=>?_,λg l c p d q=>?_⟩
  ·rcases own g C with e|e
   ·exact(h.apart i k a hk o).1 g l e
   ·have:=m i a g l;omega
  ·have F:=new c p d;have G:=m i a g l;omega
  ·rcases own g l with e|e
   ·exact(h.apart i k a hk o).2.2 g e c p d q
   ·have:=r i a c p d;omega
 refine⟨hr,by rw[List.length_set,List.length_set,h.len],λi a=>?_,λi a=>?_,λi a=>?_,λi j a z y=>?_⟩
 all_goals rw[List.length_set] at a
 ·rw[getD_put xs x' cu0 k i hk,getD_put bk c' cm0 k i A];by_cases q:i=k
  ·rw[if_pos q,if_pos q];exact has
  ·rw[if_neg q,if_neg q];have B:=h.apart i k a hk q;refine(h.has i a).same (λg x=>hO g (m i a g x) (λe=>(h.off i a).1 g x e) (λe=>B.1 g x e)) (λc p d=>hO p.block (r i a c p d) (λe=>(h.off i a).2 c p d e.symm) (λe=>B.2.2 p.block e c p d rfl))
 ·rw[getD_put xs x' cu0 k i hk];by_cases q:i=k
  ·rw[if_pos q];exact t
  ·rw[if_neg q];exact h.off i a
 ·rw[getD_put xs x' cu0 k i hk];by_cases q:i=k
  ·rw[if_pos q];exact self
  ·rw[if_neg q];exact h.self i a
 ·rw[List.length_set] at z;rw[getD_put xs x' cu0 k i hk,getD_put xs x' cu0 k j hk];by_cases q:i=k<;>by_cases u:j=k
  ·omega
  ·rw[if_pos q,if_neg u];exact(n j z u).symm
  ·rw[if_neg q,if_pos u];exact n i a q
  ·rw[if_neg q,if_neg u];exact h.apart i j a z y
theorem lc_put2{w W:World}{base g n cap k:Nat}{x':Cu}{cur:Array Value}(h:Lc w base (.slice (some ⟨g,0,none⟩) n cap) xs)(hB:Blk w g cur 71)(hk:k<xs.length)(hW:Blk W g (putAll cur (k*8) x'.cs) 71):Lc W base (.slice (some ⟨g,0,none⟩) n cap) (xs.set k x'):=by
 unfold Lc at *;rw[List.length_set];refine⟨by rw[cellsC_len,List.length_set],?_⟩;rcases h.2 with⟨p,_⟩|⟨u,f,a,m,q,b,s,r,o,t⟩
 ·cases p
 ·simp only[Value.slice.injEq,Option.some.injEq,Addr.mk.injEq,and_true] at m;obtain⟨rfl,rfl,rfl⟩:=m
  have e:a=cur:=by
   have d:=hB;rw[d] at b;injection b with b
   injection b with b
   exact b.symm
  subst e;refine .inr ⟨g,cap,_,rfl,q,hW,s,r,by rw[putAll_size];exact o,?_⟩;apply List.ext_getElem?;intro j;have l:x'.cs.length=8:=rfl;rw[cellsC_get,List.length_set,getD_put xs x' cu0 k (j/8) hk];by_cases c:j<xs.length*8
  ·rw[if_pos c,List.getElem?_take_of_lt c,Array.getElem?_toList,putAll_get _ _ _ _ (by rw[o,l];omega),l];by_cases d:k*8≤j∧j<k*8+8
   ·rw[if_pos d,if_pos (by omega),show j-k*8=j%8 by omega]
   ·rw[if_neg d,if_neg (by omega)];have i:a.toList[j]?=(cellsC xs)[j]?:=by rw[← t,List.getElem?_take_of_lt c]
    rw[Array.getElem?_toList] at i;rw[i,cellsC_get,if_pos c]
  ·rw[if_neg c,List.getElem?_eq_none (by rw[List.length_take];omega)]
theorem putAll_more(cs:Array Value):∀(l:List Value)(o:Nat)(v:Value),(putAll cs o l).setIfInBounds (o+l.length) v=putAll cs o (l++[v])
 |[],o,v=>rfl
 |x::l,o,v=>by
  have:=putAll_more (cs.setIfInBounds o x) l (o+1) v;rw[List.cons_append,putAll,putAll,← this,List.length_cons,show o+(l.length+1)=o+1+l.length by omega]
theorem at_cust{w:World}{base n cap k:Nat}(h:Lc w base (.slice a n cap) xs)(hk:k<xs.length):∃g cur,a=some ⟨g,0,none⟩∧base≤g∧Blk w g cur 71∧k*8+8≤cur.size∧∀j,j<8→cur[k*8+j]?=(xs.getD k cu0).cs[j]?:=by
 have q:xs.length=n:=by
  obtain⟨m,o,l,_⟩:=h.row;injection l with _ e _
  exact e.symm
 obtain⟨g,cur,b,c,d,p,f⟩:=lc_lies h (by omega);exact⟨g,cur,b,c,d,by omega,λj i=>f k j hk i⟩
end book
end Go.Proofs.YtoepgdhiepedeaaGreatDoor
