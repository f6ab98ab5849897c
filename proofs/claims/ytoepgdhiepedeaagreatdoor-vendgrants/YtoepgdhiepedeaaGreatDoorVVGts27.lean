import Derived.Test.YtoepgdhiepedeaaGreatDoorVVGts15
import Derived.Test.YtoepgdhiepedeaaGreatDoorVVGts17
import Derived.Test.YtoepgdhiepedeaaGreatDoorVVGts22
import Derived.Test.YtoepgdhiepedeaaGreatDoorVVGts23
import Derived.Test.YtoepgdhiepedeaaGreatDoorVVGts26
set_option linter.unusedVariables false
set_option linter.unusedSimpArgs false
set_option maxHeartbeats 4000000
set_option maxRecDepth 100000
namespace Go.Proofs.YtoepgdhiepedeaaGreatDoor
namespace book
open Go.RowKit
open acc (Ac Tm Bi APost BPost TFault TRight OpenIs)
variable{cs:Array Value}{st:Nat→List Cm}{xs:List Cu}{own:Option Nat}{pt:Option Addr}{pa:Option Addr}{g8 base k:Nat}{x x':Cu}{w w':World}{l:List Ev}{t:TypeId}{c':Cm}{pc:Nat}
theorem lc_upd2{w W:World}{base g:Nat}{v:Value}{l:List Cu}(h:Lc w base v l)(hU:Upd w W g cs t)(hg:g<base):Lc W base v l:=by
 refine⟨h.1,?_⟩;rcases h.2 with f|⟨c,a,b,i,d,e,rest⟩
 ·exact .inl f
 ·exact .inr ⟨c,a,b,i,d,by rw[hU.oth c (by omega)];exact e,rest⟩
theorem Holds.upd{w W:World}{base g:Nat}{V:Value}{bk:List Cm}(h:Holds w base V xs bk)(hU:Upd w W g cs t)(hg:g<base):Holds W base V xs bk:=
 ⟨lc_upd2 h.row hU hg,h.len,λi a=>⟨(h.has i a).num,⟨acc_upd (h.has i a).ds.came hU (λc y d q=>by have:=(h.has i a).ds.new c y d;omega),(h.has i a).ds.new⟩,lo_upd (h.has i a).so hU (λk b q=>by have:=(World.ownsRow.lt (h.has i a).so k b).1;omega)⟩,h.off,h.self,h.apart⟩
theorem Turned.next{w w' w'':World}{base:Nat}(h:Turned w w' base x x' c')(hb:zB w' w''):Turned w w'' base x x' c':=⟨h.grown.trans (grown_of hb _),h.has.next hb,h.own,h.new,h.self⟩
theorem Turned.upd{w w' w'':World}{base g:Nat}{ty:TypeId}(h:Turned w w' base x x' c')(hU:Upd w' w'' g cs ty)(hg:w.heap.size≤g)(h1:∀k,x'.sold.ownBlock=some k→k≠g)(h2:0<x'.dn→∀p,x'.dp=some p→p.block≠g):Turned w w'' base x x' c':=⟨grown_upd h.grown hU hg,⟨h.has.num,⟨acc_upd h.has.ds.came hU h2,h.has.ds.new⟩,lo_upd h.has.so hU h1⟩,h.own,h.new,h.self⟩
theorem Turned.prev{w0 w w':World}{base:Nat}(h:Turned w w' base x x' c')(hb:zB w0 w):Turned w0 w' base x x' c':=⟨(grown_of hb _).trans h.grown,h.has,λg a=>(h.own g a).imp id (λq=>Nat.le_trans hb.size q),λb p c=>Nat.le_trans hb.size (h.new b p c),h.self⟩
theorem Turned.lt{base:Nat}(h:Turned w w' base x x' c'):(∀k,x'.sold.ownBlock=some k→k<w'.heap.size)∧(0<x'.dn→∀p,x'.dp=some p→p.block<w'.heap.size):=⟨λk a=>(World.ownsRow.lt h.has.so k a).2,λc p d=>by
 obtain⟨b,g,e,f,_⟩:=h.has.ds.came.row.at c;rw[d] at e
 rw [Option.some.inj e];exact f⟩
theorem blk_kept{g:Nat}{ty:TypeId}(h:Blk w g cs ty)(hg:w.grownBy w' own)(hne:some g≠own):Blk w' g cs ty:=by
 show w'.heap[g]?=_;rw[hg.block g h.lt hne];exact h
theorem lc_kept{base:Nat}{v:Value}{l:List Cu}(h:Lc w base v l)(hg:w.grownBy w' own)(hne:∀g,v.ownBlock=some g→own≠some g):Lc w' base v l:=by
 refine World.ownsRow.kept h hg ?_;cases e:v.ownBlock with
 |none=>exact .inl rfl
 |some g=>exact .inr (λq=>hne g e q.symm)
theorem upd_grown{w W:World}{g:Nat}(hU:Upd w W g cs t):w.grownBy W (some g):=by
 have a:=hU.bel 0 w (Nat.zero_le _) zb;exact⟨a.os,a.tape,a.output,by rw[hU.size];exact zc,λk c b=>hU.oth k (λe=>b (by rw[e]))⟩
theorem bel_turned{w0 w w':World}{B:Nat}(h:Below B w0 w)(hg:w.grownBy w' own)(hs:B≤w.heap.size)(ho:∀k,own=some k→B≤k):Below B w0 w':=h.grown hg hs ho
def BookPost(w:World)(t:Tm)(l:List Ev)(e:Ending)(w':World):Prop:=∃p m cap xs bk at_ f,e=.returned (.tuple #[.agg #[.slice p m cap],zI at_,zI f])∧BookIs t l bk at_ f∧Sees w' p m xs bk∧m≤120∧zB w w'
theorem getD_mem{bk:List Cm}{j:Nat}(h:j<bk.length):bk.getD j cm0∈bk:=by
 have e:bk.getD j cm0=bk[j]:=by simp[List.getD,List.getElem?_eq_getElem h]
 rw[e];exact List.getElem_mem _
theorem sees_nil(w:World):Sees w none 0 [] []:=⟨⟨rfl,.inl rfl⟩,rfl,(λi a=>by cases a),(λi a=>by cases a),(λi a=>by cases a)⟩
structure Mid (w:World) (t:Tm) (pt:Option Addr) (lt ct:Nat) (l:List Ev) (g8 base k:Nat) (st:Nat→List Cm) (xs:List Cu) (pa:Option Addr) (pc:Nat) (wr:World):Prop where
 s0:st 0=[]
 steps:∀i,i<k→StepIs t (st i) (l.getD i ev0) (st (i+1)) 0
 small:Small (st k) k
 bt:Blk wr w.heap.size #[.slice pt lt ct,zI t.ff,zI t.fb,zI t.db,zI t.al] 24
 br:Blk wr (w.heap.size+1) #[zS] 65
 bb:Blk wr g8 #[.slice pa xs.length pc] 65
 hold:Holds wr base (.slice pa xs.length pc) xs (st k)
 bel:zB w wr
 sz:base≤wr.heap.size
theorem Mid.next{w:World}{t:Tm}{lt ct:Nat}{wr wr':World}(h:Mid w t pt lt ct l g8 base k st xs pa pc wr)(hb:zB wr wr'):Mid w t pt lt ct l g8 base k st xs pa pc wr':=⟨h.s0,h.steps,h.small,h.bt.next hb,h.br.next hb,h.bb.next hb,h.hold.next hb,h.bel.trans (hb.mono h.bel.size),Nat.le_trans h.sz hb.size⟩
theorem Mid.few{w:World}{t:Tm}{lt ct:Nat}{wr:World}(h:Mid w t pt lt ct l g8 base k st xs pa pc wr):xs.length≤k:=by rw[h.hold.len];exact h.small.1
theorem Mid.stop{w:World}{t:Tm}{lt ct:Nat}{g8 base k:Nat}{wr:World}(h:Mid w t pt lt ct l g8 base k st xs pa pc wr)(hT:TRight t)(hl:l.length≤120)(hk:k<l.length){x:List Cm}{f:Int}(hs:StepIs t (st k) (l.getD k ev0) x f)(hf:f≠0):BookIs t l [] (k:Int) f:=.inr (.inr ⟨hT,hl,k,st,h.s0,h.steps,.inr ⟨hk,⟨x,hs⟩,hf,rfl,rfl⟩⟩)
end book
namespace acc
open tar (Du du0 Came RowD Ld PairT)
open Go.RowKit
theorem rsold(x:Ac)(p:Option Addr)(len cap:Nat)(t:Tm)(pt:Option Addr)(lt ct:Nat)(te m:Int)(w:World)(h:RowD w p len x.ds)(hl:len≤maxLen)(ht:RowD w pt lt t.ts)(htl:lt≤maxLen):Calls Tryz.prog 22 #[.agg #[zI x.me,zI x.rv,zI x.nx,zI x.mo,zI x.bo,zI x.fr,.slice p len cap],.agg #[.slice pt lt ct,zI t.ff,zI t.fb,zI t.db,zI t.al],zI te,zI m] w λe w'=>BPost w (SellIs x t te m) e w':=by
 have aH:Hid (∀W,zC 47 #[zI te,zI 1,zI 100000000] W λe w'=>e=.returned (.bool (decide (1≤te∧te≤100000000)))∧w'=W):=λW=>cal.cin te 1 100000000 W;by_cases hm:AMay x
 ·have HM:=zh hm;have d5:=hm.2.2.2.1;have d4:=hm.2.2.2.2.1;obtain⟨W0,T,aY,b1,b0,aZ,M,cC⟩:=sh4 w #[zI x.me,zI x.rv,zI x.nx,zI x.mo,zI x.bo,zI x.fr,.slice p len cap] 55 #[.slice pt lt ct,zI t.ff,zI t.fb,zI t.db,zI t.al] 24 #[zI 0,zI 0,zI 0,zI 0,zI 0,zI 0,zS] 55 #[zI 0,zI 0,zI 0,zI 0,zI 0,zI 0,zI 0] 33;have ae:=zh (h.below M.o);have aX:=zh (ht.below M.o);go_enter Tryz.func22,Tryz.ntmps22;go_upto_region 1 with fail
  rw[T.o];have bg:Hid (zC 44 #[.agg #[zI x.me,zI x.rv,zI x.nx,zI x.mo,zI x.bo,zI x.fr,.slice p len cap]] W0 λe w'=>e=.returned (.bool true)∧zB W0 w'):=ramay x p len cap _ ae.o hl hm;go_wp2_with refine zw ?_;refine bg.o.mono ?_;rintro e w1 ⟨rfl,i⟩;obtain⟨b4,b6,bH,b5⟩:=zn4 i aY b1 b0 aZ;have bG:=zh (ae.o.below i);have b3:=zh (aX.o.below i);have b2:=shB M i;have c3:=i.size;clear i;clear hm;have cw:=zh (rterms t pt lt ct w1 b3.o htl);go_wp2_with refine zw ?_;refine cw.o.mono ?_;rintro e w2 ⟨ft,rfl,ar,a9⟩;obtain⟨ax,ay,b8,b7⟩:=zn4 a9 b4 b6 bH b5;have bI:=zh (bG.o.below a9);have c9:=zh (b3.o.below a9);have aw:=shB b2 a9;have cU:=a9.size;clear a9;by_cases h0:ft=0
  ·subst h0;have HT:Hid (TRight t):=ar.ok.1 rfl;clear ar;have cu:=zh (rrolled x p len cap m w2 bI.o hl);go_wp2_with refine zw ?_;refine cu.o.mono ?_;rintro e w3 ⟨b,pr,lr,cr,fr,rfl,aK,bV,aa⟩;obtain⟨ag,ai,a1,ah⟩:=zn4 aa ax ay b8 b7;have bJ:=zh (bI.o.below aa);have bK:=zh (c9.o.below aa);have a0:=shB aw aa;have cV:=aa.size;clear aa;unfold Ac.v Ac.cs;have b9:=zh bV;have Z:=zh (came_lt b9.o.came);clear bV;by_cases h4:fr=0
   ·subst h4
    have ad:RMay x m∧b=rolled x m:=by
     rcases aK with⟨q,_⟩|⟨_,_,q,_⟩|⟨_,q,r,_⟩
     ·exact absurd HM.o q
     ·exact absurd rfl q.ne
     ·exact⟨q,r⟩
    have a8:Hid (Ready x t m):=⟨HM.o,HT.o,ad.1⟩
    have R:=zh ad.2;have bk:=rolled_same x m;rw[← ad.2] at bk;have aJ:=(rolled_may HM.o ad.1).2.2.2.2.2.1;rw[← ad.2] at aJ;have aG:=zh bk;clear ad aK bk;obtain⟨U,T,aj,k,bZ⟩:=sh1 w3 #[zI b.me,zI b.rv,zI b.nx,zI b.mo,zI b.bo,zI b.fr,.slice pr lr cr] 55;obtain⟨aA,ak,bM,aB⟩:=zn4 k.o ag ai a1 ah;have cd:=zh (bJ.o.below k.o);have bL:=zh (bK.o.below k.o);have G:=zh (b9.o.below k.o);have az:=shB a0 k.o;go_upto_region 7 with fail
    rw[T.o];have bU:deb.Mays b.ds:=by rw[R.o];exact(rolled_may HM.o a8.o.2.2).1
    by_cases h5:1≤te∧te≤100000000
    ·rw[decide_eq_true h5] at aH
     go_wp2_with (first
      | fail)
     refine(aH.o _).mono ?_;rintro e wz ⟨rfl,au⟩;obtain rfl:U=wz:=au.symm;have H:=HT.o.2;have bS:Hid (deb.TMay te t.db):=⟨⟨by omega,h5.2⟩,H.2.2.1⟩
     have cp:=zh (deb.rrec pr lr cr b.ds te t.db U G.o.came.row G.o.came.most);have cm:Hid (∀W,zC 49 #[zI te,zI t.fb] W λe w'=>e=.returned (.tuple #[zI (te*t.fb/10000),zI 0])∧w'=W):=λW=>deb.rparted te t.fb W ⟨⟨by omega,by omega⟩,H.2.1⟩;have d9:=deb.share_bd (t:=te) (bp:=t.fb) ⟨⟨by omega,h5.2⟩,H.2.1⟩;have da:=deb.share_bd bS.o;have cH:=zy6 aj;have cK:=zy3 ak;go_wp2_with fail;clear cH cK;refine cp.o.mono ?_;rintro e w5 ⟨L,J,I,z,j,fz,rfl,bX,bW,ab⟩;obtain⟨a4,n,am,aC,N⟩:=zn5 ab aA ak bM aB aj;have bN:=zh (bL.o.below ab);have a3:=zh (G.o.below ab);have a2:=shB az ab;have cW:=ab.size;clear ab;obtain⟨rfl,hz,aM⟩:=bX.got bU bS.o;clear bX;have aD:=zh bW;have f:=zh (came_lt aD.o.came);clear bW;have cy:=(deb.sumD_pos (deb.mem_fits bU.2)).1;have cP:0≤j:=by rw[aM];omega
     have cQ:j≤100000000:=by rw[aM];omega
     have bQ:Hid (j=paid x t te m):=by show _=_;rw[aM];unfold paid share;rw[← R.o]
     have cx:Hid (z=deb.recK (rolled x m).ds (share t te) (rolled x m).ds.length):=by show _=_;rw[hz];unfold share;rw[← R.o]
     have bO:Hid (t.ff+te*t.fb/10000=fee t te):=rfl;clear aM hz cy;have cJ:=zy2 n;go_wp2_with fail;refine(cm.o _).mono ?_;rintro e wz ⟨rfl,au⟩;obtain rfl:w5=wz:=au.symm;clear cJ;generalize te*t.fb/10000=l at *;have d3:=H.1;have aI:Hid (te-j-(t.ff+l)=rest x t te m):=by show _=_;unfold rest;rw[bQ.o,bO.o]
     have cq:=HT.o.1;clear H;by_cases h6:te-j-(t.ff+l)<0
     ·have d6:decide (te-j-(t.ff+l)<0)=true:=decide_eq_true h6;have HV:Hid (SellIs x t te m ac0 bi0 19):=.inr (.inl ⟨a8.o,λhh=>by have:=hh.2.1;rw[← aI.o] at this;omega,rfl,rfl,rfl⟩);have c4:=zy1 n;go_wp2_with (first|refine zs ?_|refine zw ?_)
      intro cL a;obtain⟨O,ao,aE,aF⟩:=zk4 a a4 n aC N;have bf:=zyb a;have A:Hid (deb.Fresh cL U.heap.size L J I z):=fresh_updN aD.o a (λc y d=>by have f1:=aD.o.new c y d;have f2:=f.o c y d;omega);have an:=zk a a2;have cF:=a.size;clear a;go_wp2_with (first|refine zs ?_|refine zw ?_)
      intro c5 a;obtain⟨a5,a7,Q,a6⟩:=zk4 a O ao bf aF;have ap:=zyb a;have B:Hid (deb.Fresh c5 U.heap.size L J I z):=fresh_updN A.o a (λc y d=>by have f1:=A.o.new c y d;have f2:=f.o c y d;omega);have P:=zk a an;have c8:=a.size;clear a;go_wp2_with fail;exact zr (.tuple #[.agg #[zI 0,zI 0,zI 0,zI 0,zI 0,zI 0,zS],.agg #[zI 0,zI 0,zI 0,zI 0,zI 0,zI 0,zI 0],zI 19]) (by simp[results,Tryz.results22,scl7 Q,scl7 ap,go_sem]) ⟨ac0,bi0,none,0,0,_,rfl,HV.o,deb.fresh_nil _ _,P.o⟩
     ·have d6:decide (te-j-(t.ff+l)<0)=false:=decide_eq_false h6;have ck:Hid (zC 50 #[.slice pt lt ct,zI b.bo,zI (te-j-(t.ff+l))] w5 λe w'=>tar.ThreePost w5 (tar.MostIs t.ts b.bo (te-j-(t.ff+l))) e w'):=tar.rmost pt lt ct t.ts b.bo _ w5 bN.o htl;have cj:Hid (tar.MayMost b.bo (te-j-(t.ff+l))):=⟨aJ,by omega,by omega⟩
      have bi:=zh cq;have cI:=zy0 n;have c4:=zy1 n;have bn:=zy4 N;go_wp2_with fail;clear cI c4 bn;refine ck.o.mono ?_;rintro e w7 ⟨u,C,fm,rfl,bY,ac⟩;obtain⟨O,ao,bf,aE,aF⟩:=zn5 ac a4 n am aC N;have d2:=zh (bN.o.below ac);have A:=zh (aD.o.below ac);have an:=shB a2 ac;have cX:=ac.size;clear ac;obtain⟨rfl,s,aL⟩:=bY.got bi.o cj.o;clear bY;have dc:=s.1.1;have dd:u≤2097151:=by have:=s.1.2;unfold tar.Top at this;omega
      have cG:b.bo+u≤10000000:=by have:=s.1.2;unfold tar.Top at this;omega
      have bT:=tar.cost_bd bi.o b.bo (b.bo+u) aJ.1 (by omega) cG;rw[← aL] at bT;have cO:C≤te-j-(t.ff+l):=by rw[aL];exact s.2.1
      have cN:0≤C:=by omega
      have bh:Hid (tar.MostOf t.ts (rolled x m).bo (rest x t te m) u):=by show tar.MostOf _ _ _ _;rw[← R.o,← aI.o];exact s
      have cn:Hid (C=tar.cost t.ts (rolled x m).bo ((rolled x m).bo+u)):=by show _=_;rw[← R.o];exact aL
      have bP:Hid (∀v,tar.MostOf t.ts (rolled x m).bo (rest x t te m) v→v=u):=λv hv=>by
       have cA:0≤(rolled x m).bo:=by rw[← R.o];exact aJ.1
       exact hv.one bi.o cA bh.o
      clear s aL bT;by_cases h7:u=0
      ·have d7:(u==0)=true:=by simpa using h7
       have HV:Hid (SellIs x t te m ac0 bi0 19):=.inr (.inl ⟨a8.o,λhh=>hh.2.2 (by rw[← h7];exact bh.o),rfl,rfl,rfl⟩);clear h7;go_wp2_with (first|refine zs ?_|refine zw ?_)
       intro bq a;obtain⟨a5,a7,ap,a6⟩:=zk4 a O ao aE aF;have Q:=zyb a;have B:Hid (deb.Fresh bq U.heap.size L J I z):=fresh_updN A.o a (λc y d=>by have f1:=A.o.new c y d;have f2:=f.o c y d;omega);have P:=zk a an;have bm:=a.size;clear a;go_wp2_with (first|refine zs ?_|refine zw ?_)
       intro av a;obtain⟨Y,af,F,aQ⟩:=zk4 a a5 a7 Q a6;have E:=zyb a;have X:Hid (deb.Fresh av U.heap.size L J I z):=fresh_updN B.o a (λc y d=>by have f1:=B.o.new c y d;have f2:=f.o c y d;omega);have D:=zk a P;have aO:=a.size;clear a;go_wp2_with fail;exact zr (.tuple #[.agg #[zI 0,zI 0,zI 0,zI 0,zI 0,zI 0,zS],.agg #[zI 0,zI 0,zI 0,zI 0,zI 0,zI 0,zI 0],zI 19]) (by simp[results,Tryz.results22,scl7 F,scl7 E,go_sem]) ⟨ac0,bi0,none,0,0,_,rfl,HV.o,deb.fresh_nil _ _,D.o⟩
      ·have d7:(u==0)=false:=by simpa using h7
       have bR:Hid (TenOk x t te m):=⟨h5,by rw[← aI.o];omega,λhh=>h7 (bP.o 0 hh).symm⟩
       by_cases h8:x.nx≤1048575
       ·have d8:decide (1048575<x.nx)=false:=decide_eq_false (by omega);clear h7;have aP:=zy2 O;go_wp2_with (first|refine zm ?_|refine zw ?_)
        intro W8 a;obtain⟨a5,a7,Q,ap⟩:=zk4 a O ao bf aE;have a6:=zyb a;have B:Hid (deb.Fresh W8 U.heap.size L J I z):=fresh_updN A.o a (λc y d=>by have f1:=A.o.new c y d;have f2:=f.o c y d;omega);have P:=zk a an;have cR:=a.size;clear a;clear aP;have bn:=zy4 a6;go_wp2_with (first|refine zl ?_|refine zw ?_)
        intro W9 a;obtain⟨Y,af,F,E⟩:=zk4 a a5 a7 Q ap;have aQ:=zyb a;have X:Hid (deb.Fresh W9 U.heap.size L J I z):=fresh_updN B.o a (λc y d=>by have f1:=B.o.new c y d;have f2:=f.o c y d;omega);have D:=zk a P;have cS:=a.size;clear a;clear bn;have aP:=zy2 Y;go_wp2_with (first|refine zl ?_|refine zw ?_)
        intro WA a;obtain⟨aS,bu,bt,bs⟩:=zk4 a Y af F E;have aT:=zyb a;have aR:Hid (deb.Fresh WA U.heap.size L J I z):=fresh_updN X.o a (λc y d=>by have f1:=X.o.new c y d;have f2:=f.o c y d;omega);have br:=zk a D;have cT:=a.size;clear a;clear aP;have de:IntKind.i64.wrap (te-j-(t.ff+l)-C)=te-j-(t.ff+l)-C:=by rw[IntKind.wrap_i64];omega
        go_upto_region 25 with fail
        refine wp_region_held_drew (S:=λv=>Blk v (w3.heap.size) #[zI b.me,zI b.rv,zI (x.nx+1),zI b.mo,zI (b.bo+u),zI b.fr,.slice L J I] 55∧Blk v (w.heap.size) #[zI x.me,zI x.rv,zI x.nx,zI x.mo,zI x.bo,zI x.fr,.slice p len cap] 55) (by kernel_rfl) ⟨Blk.drew aT.o 1,Blk.drew aS.o 1⟩ (λV=>?_);refine zu' 0 (.agg #[zI b.me,zI b.rv,zI (x.nx+1),zI b.mo,zI (b.bo+u),zI b.fr,.slice L J I]) rfl rfl (Or.inl ⟨by rfl,λv hv=>by have g0:=hv.1.cell 0;have g1:=hv.1.cell 1;have g2:=hv.1.cell 2;have g3:=hv.1.cell 3;have g4:=hv.1.cell 4;have g5:=hv.1.cell 5;have g6:=hv.1.cell 6;clear hv;go_simp⟩) ?_;refine zt' 1 (.pointer (some ⟨w.heap.size,2,none⟩)) ?_;refine zu' 2 (zI x.nx) rfl rfl (Or.inl ⟨by rfl,λv hv=>by have g:=hv.2.cell 2;clear hv;go_simp⟩) ?_;refine zt' 3 (zI te) ?_;refine zt' 4 (zI j) ?_;refine zt' 5 (zI (t.ff+l)) ?_;refine zt' 6 (zI C) ?_;refine zt' 7 (zI (te-j-(t.ff+l))) ?_;refine zt' 8 (zI C) ?_;refine zt' 9 (zI ((te-j-(t.ff+l))-C)) ?_;refine zt' 10 (zI u) ?_;refine zt' 11 (.agg #[zI x.nx,zI te,zI j,zI (t.ff+l),zI C,zI ((te-j-(t.ff+l))-C),zI u]) ?_;refine zo 12 λK hK=>?_;rw[if_pos (by rfl)];refine wp_letOp 55 _ _ rfl (w.heap.size+1+1) rfl #[zI b.me,zI b.rv,zI (x.nx+1),zI b.mo,zI (b.bo+u),zI b.fr,.slice L J I] rfl (by kernel_rfl) (by simp[Value.oneCell']) #[zI 0,zI 0,zI 0,zI 0,zI 0,zI 0,zS] 55 (Blk.drew bt.o 1) rfl rfl ?_;intro V1 a;have aV:=zh (a.keep (Blk.drew aS.o 1) (by omega));have bz:=zh (a.keep (Blk.drew bu.o 1) (by omega));have bx:=zyb a;have bw:=zh (a.keep (Blk.drew bs.o 1) (by omega));have aW:=zh (a.keep (Blk.drew aT.o 1) (by omega));have aU:Hid (deb.Fresh V1 U.heap.size L J I z):=fresh_updN (fresh_drew aR.o) a (λc y d=>by have f1:=aR.o.new c y d;have f2:=f.o c y d;omega);have bv:Hid (zB w V1):=a.bel _ _ (by omega) br.o.drew
        clear a;refine hK.o _ _ ⟨aW.o,aV.o⟩ (λV=>?_);clear hK K;refine zo 13 λK hK=>?_;rw[if_pos (by rfl)];refine wp_letOp 33 _ _ rfl (w.heap.size+1+1+1) rfl #[zI x.nx,zI te,zI j,zI (t.ff+l),zI C,zI ((te-j-(t.ff+l))-C),zI u] rfl (by kernel_rfl) (by simp[Value.oneCell']) #[zI 0,zI 0,zI 0,zI 0,zI 0,zI 0,zI 0] 33 bw.o rfl rfl ?_;intro V2 a;obtain⟨bC,cM,bF,bE⟩:=zk4 a aV bz bx aW;have bD:=zyb a;have bB:Hid (deb.Fresh V2 U.heap.size L J I z):=fresh_updN aU.o a (λc y d=>by have f1:=aU.o.new c y d;have f2:=f.o c y d;omega);have bA:=zk a bv;clear a;refine hK.o _ _ ⟨bE.o,bC.o⟩ (λV=>?_);clear hK K;refine zt' 14 (zI 0) ?_;refine wpAnyH_done (by kernel_rfl) ?_ _;clear V
        have cv:Hid (⟨b.me,b.rv,x.nx+1,b.mo,b.bo+u,b.fr,z⟩=sold x t te m u):=by
         show _=_;unfold sold;rw[cx.o,← R.o,aG.o.1,aG.o.2.1,aG.o.2.2.2.1,aG.o.2.2.2.2]
        have ci:Hid (⟨x.nx,te,j,(t.ff+l),C,(te-j-(t.ff+l))-C,u⟩=bill x t te m u):=by
         show _=_;unfold bill;rw[← cn.o,← aI.o,← bQ.o,← bO.o]
        go_wp2_with fail;exact zr (.tuple #[.agg #[zI b.me,zI b.rv,zI (x.nx+1),zI b.mo,zI (b.bo+u),zI b.fr,.slice L J I],.agg #[zI x.nx,zI te,zI j,zI (t.ff+l),zI C,zI ((te-j-(t.ff+l))-C),zI u],zI 0]) (by simp[results,Tryz.results22,scl7 bF,scl7 bD,go_sem]) ⟨⟨b.me,b.rv,x.nx+1,b.mo,b.bo+u,b.fr,z⟩,⟨x.nx,te,j,(t.ff+l),C,(te-j-(t.ff+l))-C,u⟩,L,J,I,_,rfl,.inr (.inr (.inr ⟨a8.o,bR.o,h8,rfl,u,bh.o,cv.o,ci.o⟩)),bB.o.low (by omega),bA.o⟩
       ·have d8:decide (1048575<x.nx)=true:=decide_eq_true (by omega);have HV:Hid (SellIs x t te m ac0 bi0 20):=.inr (.inr (.inl ⟨a8.o,bR.o,h8,rfl,rfl,rfl⟩));clear h7 h8;have aP:=zy2 O;go_wp2_with (first|refine zs ?_|refine zw ?_)
        intro bq a;obtain⟨a5,a7,ap,a6⟩:=zk4 a O ao aE aF;have Q:=zyb a;have B:Hid (deb.Fresh bq U.heap.size L J I z):=fresh_updN A.o a (λc y d=>by have f1:=A.o.new c y d;have f2:=f.o c y d;omega);have P:=zk a an;have bm:=a.size;clear a;go_wp2_with (first|refine zs ?_|refine zw ?_)
        intro av a;obtain⟨Y,af,F,aQ⟩:=zk4 a a5 a7 Q a6;have E:=zyb a;have X:Hid (deb.Fresh av U.heap.size L J I z):=fresh_updN B.o a (λc y d=>by have f1:=B.o.new c y d;have f2:=f.o c y d;omega);have D:=zk a P;have aO:=a.size;clear a;go_wp2_with fail;exact zr (.tuple #[.agg #[zI 0,zI 0,zI 0,zI 0,zI 0,zI 0,zS],.agg #[zI 0,zI 0,zI 0,zI 0,zI 0,zI 0,zI 0],zI 20]) (by simp[results,Tryz.results22,scl7 F,scl7 E,go_sem]) ⟨ac0,bi0,none,0,0,_,rfl,HV.o,deb.fresh_nil _ _,D.o⟩
    ·rw[decide_eq_false h5] at aH;have HV:Hid (SellIs x t te m ac0 bi0 19):=.inr (.inl ⟨a8.o,λhh=>h5 hh.1,rfl,rfl,rfl⟩);clear h5
     go_wp2_with (first
      | fail)
     refine(aH.o _).mono ?_;rintro e wz ⟨rfl,au⟩;obtain rfl:U=wz:=au.symm;go_wp2_with (first|refine zs ?_|refine zw ?_)
     intro bj a;obtain⟨a4,n,aC,N⟩:=zk4 a aA ak aB aj;have am:=zyb a;have a3:Hid (deb.Fresh bj w2.heap.size pr lr cr b.ds):=fresh_updN G.o a (λc y d=>by have f1:=G.o.new c y d;have f2:=Z.o c y d;omega);have a2:=zk a az;have bl:=a.size;clear a;go_wp2_with (first|refine zs ?_|refine zw ?_)
     intro aq a;obtain⟨cf,ch,be,cg⟩:=zk4 a a4 n am N;have bb:=zyb a;have ce:Hid (deb.Fresh aq w2.heap.size pr lr cr b.ds):=fresh_updN a3.o a (λc y d=>by have f1:=a3.o.new c y d;have f2:=Z.o c y d;omega);have ba:=zk a a2;have aN:=a.size;clear a;go_wp2_with fail;exact zr (.tuple #[.agg #[zI 0,zI 0,zI 0,zI 0,zI 0,zI 0,zS],.agg #[zI 0,zI 0,zI 0,zI 0,zI 0,zI 0,zI 0],zI 19]) (by simp[results,Tryz.results22,scl7 be,scl7 bb,go_sem]) ⟨ac0,bi0,none,0,0,_,rfl,HV.o,deb.fresh_nil _ _,ba.o⟩
   ·have cB:(fr != 0)=true:=by simpa using h4
    have HV:Hid (Refused x t m fr):=by
     rcases aK with⟨q,_⟩|⟨_,q,r,_⟩|⟨_,_,_,r⟩
     ·exact absurd HM.o q
     ·exact .inr (.inr ⟨HM.o,HT.o,q,r⟩)
     ·exact absurd r h4
    clear aK h4;obtain⟨U,T,aj,k,bZ⟩:=sh1 w3 #[zI b.me,zI b.rv,zI b.nx,zI b.mo,zI b.bo,zI b.fr,.slice pr lr cr] 55;obtain⟨aA,ak,bM,aB⟩:=zn4 k.o ag ai a1 ah;have cd:=zh (bJ.o.below k.o);have bL:=zh (bK.o.below k.o);have G:=zh (b9.o.below k.o);have az:=shB a0 k.o;go_upto_region 7 with fail
    rw[T.o];go_wp2_with (first|refine zs ?_|refine zw ?_)
    intro bj a;obtain⟨a4,n,aC,N⟩:=zk4 a aA ak aB aj;have am:=zyb a;have a3:Hid (deb.Fresh bj w2.heap.size pr lr cr b.ds):=fresh_updN G.o a (λc y d=>by have f1:=G.o.new c y d;have f2:=Z.o c y d;omega);have a2:=zk a az;have bl:=a.size;clear a;go_wp2_with (first|refine zs ?_|refine zw ?_)
    intro aq a;obtain⟨cf,ch,be,cg⟩:=zk4 a a4 n am N;have bb:=zyb a;have ce:Hid (deb.Fresh aq w2.heap.size pr lr cr b.ds):=fresh_updN a3.o a (λc y d=>by have f1:=a3.o.new c y d;have f2:=Z.o c y d;omega);have ba:=zk a a2;have aN:=a.size;clear a;go_wp2_with fail;exact zr (.tuple #[.agg #[zI 0,zI 0,zI 0,zI 0,zI 0,zI 0,zS],.agg #[zI 0,zI 0,zI 0,zI 0,zI 0,zI 0,zI 0],zI fr]) (by simp[results,Tryz.results22,scl7 be,scl7 bb,go_sem]) ⟨ac0,bi0,none,0,0,_,rfl,.inl ⟨HV.o,rfl,rfl⟩,deb.fresh_nil _ _,ba.o⟩
  ·have cB:(ft != 0)=true:=by simpa using h0
   have HV:Hid (Refused x t m ft):=.inr (.inl ⟨HM.o,λh=>h0 (ar.ok.2 h),ar⟩);clear ar h0;go_wp2_with (first|refine zs ?_|refine zw ?_)
   intro dg a;obtain⟨ag,ai,ah⟩:=zk3 a ax ay b7;have a0:=zk a aw;have a1:=zyb a;have cE:=a.size;clear a;go_wp2_with (first|refine zs ?_|refine zw ?_)
   intro cZ a;obtain⟨d0,d1,cc⟩:=zk3 a ag ai a1;have ca:=zk a a0;have cb:=zyb a;have c7:=a.size;clear a;go_wp2_with fail;exact zr (.tuple #[.agg #[zI 0,zI 0,zI 0,zI 0,zI 0,zI 0,zS],.agg #[zI 0,zI 0,zI 0,zI 0,zI 0,zI 0,zI 0],zI ft]) (by simp[results,Tryz.results22,scl7 cc,scl7 cb,go_sem]) ⟨ac0,bi0,none,0,0,_,rfl,.inl ⟨HV.o,rfl,rfl⟩,deb.fresh_nil _ _,ca.o⟩
 ·have HM:=zh hm;obtain⟨W0,T,aY,b1,b0,aZ,M,cC⟩:=sh4 w #[zI x.me,zI x.rv,zI x.nx,zI x.mo,zI x.bo,zI x.fr,.slice p len cap] 55 #[.slice pt lt ct,zI t.ff,zI t.fb,zI t.db,zI t.al] 24 #[zI 0,zI 0,zI 0,zI 0,zI 0,zI 0,zS] 55 #[zI 0,zI 0,zI 0,zI 0,zI 0,zI 0,zI 0] 33;have ae:=zh (h.below M.o);have aX:=zh (ht.below M.o);go_enter Tryz.func22,Tryz.ntmps22;go_upto_region 1 with fail
  rw[T.o];have bg:Hid (zC 44 #[.agg #[zI x.me,zI x.rv,zI x.nx,zI x.mo,zI x.bo,zI x.fr,.slice p len cap]] W0 λe w'=>e=.returned (.bool false)∧zB W0 w'):=ranot x p len cap _ ae.o hl hm;go_wp2_with refine zw ?_;refine bg.o.mono ?_;rintro e w1 ⟨rfl,i⟩;obtain⟨b4,b6,bH,b5⟩:=zn4 i aY b1 b0 aZ;have bG:=zh (ae.o.below i);have b3:=zh (aX.o.below i);have b2:=shB M i;have c3:=i.size;clear i;go_wp2_with (first|refine zs ?_|refine zw ?_)
  intro df a;obtain⟨ax,ay,b7⟩:=zk3 a b4 b6 b5;have aw:=zk a b2;have b8:=zyb a;have cD:=a.size;clear a;go_wp2_with (first|refine zs ?_|refine zw ?_)
  intro cY a;obtain⟨ag,ai,a1⟩:=zk3 a ax ay b8;have a0:=zk a aw;have ah:=zyb a;have c6:=a.size;clear a;go_wp2_with fail;exact zr (.tuple #[.agg #[zI 0,zI 0,zI 0,zI 0,zI 0,zI 0,zS],.agg #[zI 0,zI 0,zI 0,zI 0,zI 0,zI 0,zI 0],zI 5]) (by simp[results,Tryz.results22,scl7 a1,scl7 ah,go_sem]) ⟨ac0,bi0,none,0,0,_,rfl,.inl ⟨.inl ⟨HM.o,rfl⟩,rfl,rfl⟩,deb.fresh_nil _ _,a0.o⟩
theorem prekey(g:Nat)(x:Ac)(p:Option Addr)(len cap:Nat)(w:World)(hw:Blk w g (wcs x bi0 p len cap) 132)(hd:deb.Fresh w (g+1) p len cap x.ds)(ha:AMay x):Calls Tryz.prog 63 #[.pointer (some ⟨g,0,none⟩)] w λe w'=>DPost w g (Or0 (RekeyIs x)) e w':=by
 have u:=ha.2.2.1;have j:=ha.2.2.2.1;have s:=zh ha;have q:Hid (Blk w g #[zI x.me,zI x.rv,zI x.nx,zI x.mo,zI x.bo,zI x.fr,.slice p len cap,zI 0,zI 0,zI 0,zI 0,zI 0,zI 0,zI 0] 132):=hw;have z:Hid (deb.Fresh w (g+1) p len cap x.ds):=hd;have C:=zy1 q;clear hw hd ha;by_cases m:x.rv<15
 ·have A:(x.rv==15)=false:=by simp;omega
  have B:IntKind.i64.wrap (x.rv+1)=x.rv+1:=by rw[IntKind.wrap_i64];omega
  have y:Hid (x.rv<15):=m;go_enter Tryz.func63,Tryz.ntmps63;go_wp2_with (first|(refine wp_let1 rfl 3 _ _ rfl g 1 rfl .i64 (x.rv+1) rfl (by kernel_rfl) #[zI x.me,zI x.rv,zI x.nx,zI x.mo,zI x.bo,zI x.fr,.slice p len cap,zI 0,zI 0,zI 0,zI 0,zI 0,zI 0,zI 0] 132 q.o (by simp) ?_)|fail)
  intro l n;have r:=zyb n;have f:Hid (Chg w l g):=.upd n;have h:=zh (fresh_chg z.o (.upd n));have t:Hid (zC 70 #[.pointer (some ⟨g,0,none⟩)] l λe w'=>NumPost l g ⟨x.me,x.rv+1,x.nx,x.mo,x.bo,x.fr,x.ds⟩ bi0 p len cap e w'):=pnum g ⟨x.me,x.rv+1,x.nx,x.mo,x.bo,x.fr,x.ds⟩ bi0 p len cap l r.o j;clear n C A m;go_wp2_with fail;refine t.o.mono ?_;rintro e D ⟨a,⟨k,rfl,d⟩|⟨k,rfl,d⟩⟩
  ·have i:Hid (Or0 (RekeyIs x) ⟨x.me,x.rv+1,x.nx,x.mo,x.bo,x.fr,x.ds⟩ bi0 20):=.inl ⟨by decide,.inr (.inr (.inl ⟨s.o,y.o,k,rfl,rfl,rfl⟩))⟩;have c:=fresh_chg h.o a;have b:=f.o.trans a;clear k;go_wp2_with fail;go_ret;exact⟨⟨x.me,x.rv+1,x.nx,x.mo,x.bo,x.fr,x.ds⟩,bi0,p,len,cap,20,rfl,i.o,d,c,b⟩
  ·have i:Hid (Or0 (RekeyIs x) ⟨x.me,x.rv+1,x.nx+1,x.mo,x.bo,x.fr,x.ds⟩ ⟨x.nx,0,0,0,0,0,0⟩ 0):=.inr ⟨rfl,.inr (.inr (.inr ⟨s.o,y.o,k,rfl,rfl,rfl⟩))⟩;have c:=fresh_chg h.o a;have b:=f.o.trans a;clear k;go_wp2_with fail;go_ret;exact⟨⟨x.me,x.rv+1,x.nx+1,x.mo,x.bo,x.fr,x.ds⟩,⟨x.nx,0,0,0,0,0,0⟩,p,len,cap,0,rfl,i.o,d,c,b⟩
 ·have A:(x.rv==15)=true:=by simp;omega
  have i:Hid (Or0 (RekeyIs x) x bi0 24):=.inl ⟨by decide,.inr (.inl ⟨s.o,m,rfl,rfl,rfl⟩)⟩;clear m u j;go_enter Tryz.func63,Tryz.ntmps63;go_wp2_with fail;go_ret;exact⟨x,bi0,p,len,cap,24,rfl,i.o,q.o,z.o,Chg.refl _ _⟩
theorem krekey:KcRekey:=by
 intro w x p len k U;unfold Ac.v Ac.cs;obtain⟨r,Q,B,D,C,m,a6⟩:=sh3 w #[zI x.me,zI x.rv,zI x.nx,zI x.mo,zI x.bo,zI x.fr,.slice p len k] 55 #[zI 0,zI 0,zI 0,zI 0,zI 0,zI 0,zS] 55 #[zI 0,zI 0,zI 0,zI 0,zI 0,zI 0,zI 0] 33;have n:=zh (U.ds.below m.o);go_enter Tryz.func31,Tryz.ntmps31;go_upto_region 1 with fail
 rw[Q.o]
 have P:Hid (zC 32 #[.agg #[zI x.me,zI x.rv,zI x.nx,zI x.mo,zI x.bo,zI x.fr,.slice p len k],.func (.func 63) #[] #[]] r λe w'=>BPost r (RekeyIs x) e w'):=by
  refine pwork 63 #[] (RekeyIs x) x p len k r n.o (λh=> .inl ⟨h,rfl,rfl,rfl⟩) (λ_ _=>by kernel_rfl) ?_;intro X W g p' f hB hg i S
  have O:deb.Fresh W (g+1) p' len f x.ds:=by
   obtain⟨a0,c0,hv,R⟩:=deb.ld_fresh S X.1;injection hv with h1 h2 h3
   rw[h1,h2,h3];exact R
  exact(prekey g x p' len f W i O X).mono λe w' h=>h.w (Nat.le_of_lt i.lt)
 clear U;go_wp2_with refine zw ?_;refine P.o.mono ?_;rintro e w1 ⟨b,l,A,z,u,T,rfl,V,hf,c⟩;obtain⟨F,a3,G⟩:=zn3 c B D C;have a2:=zh (n.o.below c);have E:=shB m c;have a1:=c.size;clear c;unfold Ac.v Ac.cs Bi.v;have j:=zh hf;have d:=zh (came_lt j.o.came);have HV:=zh V;clear hf V;go_wp2_with (first|refine zs ?_|refine zw ?_)
 intro W4 a;obtain⟨I,a4⟩:=zk2 a F G;have J:=zyb a;have q:Hid (deb.Fresh W4 r.heap.size A z u b.ds):=fresh_updN j.o a (λs y t=>by have f1:=j.o.new s y t;have f2:=d.o s y t;omega);have H:=zk a E;have Y:=a.size;clear a;go_wp2_with (first|refine zs ?_|refine zw ?_)
 intro W5 a;obtain⟨a5,N⟩:=zk2 a I J;have M:=zyb a;have L:Hid (deb.Fresh W5 r.heap.size A z u b.ds):=fresh_updN q.o a (λs y t=>by have f1:=q.o.new s y t;have f2:=d.o s y t;omega);have K:=zk a H;have Z:=a.size;clear a;go_wp2_with fail;exact zr (.tuple #[.agg #[zI b.me,zI b.rv,zI b.nx,zI b.mo,zI b.bo,zI b.fr,.slice A z u],.agg #[zI l.id,zI l.te,zI l.de,zI l.fe,zI l.pr,zI l.ch,zI l.un],zI T]) (by simp[results,Tryz.results31,scl7 N,scl7 M,go_sem]) ⟨b,l,A,z,u,T,rfl,HV.o,L.o.low (by omega),K.o⟩
end acc
namespace words
open Go.RowKit
theorem nf_upd(f:Nat→Nat)(i v:Nat):∀n:Nat,i<n→nf (updU f i v) n+4294967296^i*f i=nf f n+4294967296^i*v
 |0,h=>by omega
 |n+1,h=>by
  rw[nf,nf];by_cases e:i=n
  ·subst e;have e1:nf (updU f i v) i=nf f i:=nf_congr λj b=>by unfold updU;rw[if_neg (by omega)]
   have a:updU f i v i=v:=by unfold updU;rw[if_pos rfl]
   rw[e1,a];omega
  ·have:=nf_upd f i v n (by omega);have a:updU f i v n=f n:=by unfold updU;rw[if_neg (by omega)]
   rw[a];omega
theorem mul_step{F F2 N Q R c u x y Y q:Nat}(h:F+Q*R*c=N+Q*(x*Y))(hq:q=c+(x*y+u))(hu:F2+Q*R*u=F+Q*R*(q%4294967296)):
  F2+Q*R*4294967296*(q/4294967296)=N+Q*(x*(Y+R*y)):=by
 have e:q%4294967296+4294967296*(q/4294967296)=q:=by omega
 have b:Q*R*(q%4294967296)+Q*R*4294967296*(q/4294967296)=Q*R*c+Q*R*(x*y)+Q*R*u:=by
  rw[Nat.mul_assoc (Q*R),← Nat.mul_add,e,hq,Nat.mul_add,Nat.mul_add];omega
 have a:Q*(x*(Y+R*y))=Q*(x*Y)+Q*R*(x*y):=by
  rw[Nat.mul_add,Nat.mul_add,Nat.mul_assoc Q R,Nat.mul_left_comm x R y]
 rw[a];omega
theorem word_mul{x y:Nat}(hx:x<4294967296)(hy:y<4294967296):x*y≤18446744065119617025:=by
 have:x*y≤4294967295*4294967295:=Nat.mul_le_mul (by omega) (by omega);omega
theorem mul_some(a b:Option Addr)(n k ca cb:Nat)(la lb:List Nat)(w:World)(ha:Ru w a n ca la)(hbb:Ru w b k cb lb)(n0:0<n)(k0:0<k)(hn:n≤100)(hk:k≤100):
  Calls Tryz.prog 138 #[.slice a n ca,.slice b k cb] w λe w'=>Gives w (nv la*nv lb) e w':=by
 obtain⟨i0,hi,K,L,M⟩:=info_parts info_u32;have Q:Hid (Ru w a n ca la):=ha;have z:Hid (Ru w b k cb lb):=hbb;have z1:((n:Int)==0)=false:=beq_eq_false_iff_ne.2 (by omega);have z2:((k:Int)==0)=false:=beq_eq_false_iff_ne.2 (by omega);clear ha hbb;go_enter Tryz.func138,Tryz.ntmps138
 go_wp2_with (first
  | (at_make;refine wpList_make_full _ rfl _ _ 25 rfl w.heap.size 83 i0 (.int .u32 0) 1 Tryz.underlying25 hi K L _ _ _ _ (n+k) rfl rfl ?c0 ?c1 ?c2 ?c3 ?c4 ?_))
 try (case c0=>first|rfl|(congr 1;omega))
 try (case c1=>first|rfl|(congr 1;omega))
 case c2=>first|omega|(rw[M];omega)
 case c3=>unfold maxLen;omega
 try (case c4=>simp)
 intro w1 s G;have W:Hid (RowU w1 w.heap.size (n+k) (λ_=>0)):=rowU_made s;have S:Hid (zB w w1):=zb.grown G zc (λk hk=>by cases hk);clear s G hi K L M;go_wp2_with fail;go_loopw [6] (λiv wr=>∃(i:Nat)(f:Nat→Nat),i≤n∧iv=zI i∧RowU wr w.heap.size (n+k) f∧(∀j,j<n+k→f j<4294967296)∧zB w wr∧nf f (i+k)=nf (λj=>la.getD j 0) i*nv lb) (λiv _=>n-(intOf iv).toNat)
 case atStart=>exact⟨0,λ_=>0,Nat.zero_le _,rfl,W.o,λ_ _=>(by decide:0<4294967296),S.o,by rw[nf_zero λ_ _=>rfl,nf,Nat.zero_mul]⟩
 case round=>
  obtain⟨i,f,a2,rfl,d,g,r,l⟩:=hrel;by_cases I:i<n
  ·obtain⟨x,hxx⟩:∃x,la.getD i 0=x:=⟨_,rfl⟩
   have hx:x<4294967296:=by rw[← hxx];exact Q.o.word i
   have HX:Hid (la.getD i 0=x):=hxx
   have R:Hid (∀wr,zB w wr→∃E N,a=some ⟨E,N,none⟩∧wr.cell? ⟨E,N+i,none⟩=some (.int .u32 (x:Int))):=λwr r=>by
    obtain⟨E,N,e,O⟩:=(Q.o.below r).at I;rw[hxx] at O;exact⟨E,N,e,O⟩
   have HQ:Hid (nf f (i+k)=nf (λj=>la.getD j 0) i*nv lb):=l;have A:Hid (RowU wr w.heap.size (n+k) f∧(∀j,j<n+k→f j<4294967296)∧zB w wr):=⟨d,g,r⟩
   clear hxx d g r l;go_wp2_with fail
   go_loopw [7,8] (fun cv jv wr=>∃ (j c:Nat) (h:Nat→Nat),j≤k∧jv=zI j∧cv = .int .u64 c∧c<4294967296∧RowU wr w.heap.size (n+k) h∧(∀ t,t<n+k→h t<4294967296)∧zB w wr ∧
    nf h (i+k)+4294967296 ^ i*4294967296 ^ j*c=nf (fun j=>la.getD j 0) i*nv lb+4294967296 ^ i*(x*nf (fun j=>lb.getD j 0) j)) (fun _ jv _=>k - (intOf jv).toNat)
   case atStart=>exact⟨0,0,f,Nat.zero_le _,rfl,rfl,by omega,A.o.1,A.o.2.1,A.o.2.2,by rw[HQ.o];simp[nf]⟩
   case round=>
    obtain⟨j,c,h,a4,rfl,rfl,O,d,g,r,l⟩:=hrel;by_cases H:j<k
    ·obtain⟨E,N,rfl,a1⟩:=R.o _ r;obtain⟨bb,ob,rfl,X⟩:=(z.o.below r).at H;obtain⟨y,hyy⟩:∃y,lb.getD j 0=y:=⟨_,rfl⟩
     have hy:y<4294967296:=by rw[← hyy];exact z.o.word j
     have HY:Hid (lb.getD j 0=y):=hyy;rw[hyy] at X;obtain⟨u,huu⟩:∃u,h (i+j)=u:=⟨_,rfl⟩
     have hu:u<4294967296:=by rw[← huu];exact g _ (by omega)
     have r0:=d.cell (i:=i+j) (by omega);have f0:=d.free (i+j);rw[huu] at r0;have a0:=word_mul hx hy;have e0:(c:Int)+((x:Int)*(y:Int)+(u:Int))=((c+(x*y+u):Nat):Int):=by rw[Int.natCast_add,Int.natCast_add,Int.natCast_mul]
     have p1:0≤(x:Int)*(y:Int):=Int.mul_nonneg (by omega) (by omega);have p2:(x:Int)*(y:Int)≤18446744065119617025:=by rw[← Int.natCast_mul];omega
     have a5:c+(x*y+u)<18446744073709551616:=by omega
     have C:=nf_upd h (i+j) ((c+(x*y+u))%4294967296) (i+k) (by omega);rw[huu,Nat.pow_add] at C;have J:=mul_step l rfl C;generalize Z:c+(x*y+u)=q at *
     have V:Hid (nf (updU h (i+j) (q%4294967296)) (i+k)+4294967296^i*4294967296^(j+1)*(q/4294967296)=nf (λj=>la.getD j 0) i*nv lb+4294967296^i*(x*nf (λj=>lb.getD j 0) (j+1))):=by
      have m:nf (updU h (i+j) (q%4294967296)) (i+k)+4294967296^i*4294967296^(j+1)*(q/4294967296)=nf (λj=>la.getD j 0) i*nv lb+4294967296^i*(x*nf (λj=>lb.getD j 0) (j+1)):=by
       rw[nf,Nat.pow_succ,← Nat.mul_assoc (4294967296^i)];have hY:lb.getD j 0=y:=HY.o;rw[hY];exact J
      exact m
     have e1:((q:Nat):Int)%4294967296=((q%4294967296:Nat):Int):=by omega
     have e2:((q:Nat):Int)/4294967296=((q/4294967296:Nat):Int):=by omega
     have D:Hid (RowU (wr.setCell ⟨w.heap.size,i+j,none⟩ (.int .u32 ((q%4294967296:Nat):Int))) w.heap.size (n+k) (updU h (i+j) (q%4294967296))):=d.set _ _;have p:Hid (zB w (wr.setCell ⟨w.heap.size,i+j,none⟩ (.int .u32 ((q%4294967296:Nat):Int)))):=below_set r _ _ _ zc
     have U:Hid (∀t,t<n+k→updU h (i+j) (q%4294967296) t<4294967296):=λt P=>by
      unfold updU;split
      ·omega
      ·exact g t P
     have HC:Hid (q/4294967296<4294967296):=(by omega:q/4294967296<4294967296)
     clear J l g C hyy huu d r Z a0;generalize q%4294967296=v at *;generalize Y:q/4294967296=c2 at *;clear Y;go_wp2_with fail;go_quiet (fail);go_wp2_with fail;go_roundw
     case rel=>exact⟨j+1,c2,_,by omega,by go_num,rfl,HC.o,D.o,U.o,⟨p.o.os,p.o.tape,p.o.output,p.o.size,p.o.block⟩,V.o⟩
     case measure=>simp[intOf];omega
    ·obtain rfl:j=k:=by omega
     have r0:=d.cell (i:=i+j) (by omega);have f0:=d.free (i+j);obtain⟨fi,hfi⟩:∃fi:Int,((h (i+j):Nat):Int)=fi:=⟨_,rfl⟩
     rw[hfi] at r0;clear hfi;have e1:((c:Nat):Int)%4294967296=((c:Nat):Int):=by omega
     have cb:(c:Int)<4294967296:=by omega
     have D:Hid (RowU (wr.setCell ⟨w.heap.size,i+j,none⟩ (.int .u32 ((c:Nat):Int))) w.heap.size (n+j) (updU h (i+j) c)):=d.set _ _;have p:Hid (zB w (wr.setCell ⟨w.heap.size,i+j,none⟩ (.int .u32 ((c:Nat):Int)))):=below_set r _ _ _ zc
     have U:Hid (∀t,t<n+j→updU h (i+j) c t<4294967296):=λt P=>by
      unfold updU;split
      ·exact O
      ·exact g t P
     have T:Hid (nf (updU h (i+j) c) (i+1+j)=nf (λj=>la.getD j 0) (i+1)*nv lb):=by
      have e3:nf (updU h (i+j) c) (i+j)=nf h (i+j):=nf_congr λt P=>by unfold updU;rw[if_neg (by omega)]
      have e4:updU h (i+j) c (i+j)=c:=by unfold updU;rw[if_pos rfl]
      have e5:nv lb=nf (λj=>lb.getD j 0) j:=nv_more lb (by rw[z.o.len];exact zc)
      have m:nf (updU h (i+j) c) (i+1+j)=nf (λj=>la.getD j 0) (i+1)*nv lb:=by
       rw[show i+1+j=(i+j)+1 by omega,nf,nf,e3,e4,Nat.pow_add,l,← e5,Nat.add_mul];have hX:la.getD i 0=x:=HX.o;rw[hX,Nat.mul_assoc]
      exact m
     clear d g r l H;go_wp2_with fail;go_roundw
     case rel=>exact⟨i+1,_,by omega,by go_num,D.o,U.o,p.o,T.o⟩
     case measure=>simp[intOf];omega
  ·obtain rfl:i=n:=by omega
   have D:Hid (Ru wr (some ⟨w.heap.size,0,none⟩) (i+k) (i+k) ((List.range (i+k)).map f)):=d.ru g;have HB:Hid (zB w wr):=r
   have T:Hid (nv ((List.range (i+k)).map f)=nv la*nv lb):=by
    have m:nv ((List.range (i+k)).map f)=nv la*nv lb:=by
     rw[nv_range,l,← nv_more la (by rw[Q.o.len];exact zc)]
    exact m
   clear d g r l I;go_wp2_with fail;refine(trim_any _ _ _ _ _ D.o (by omega)).mono ?_;rintro e w3 ⟨a3,n3,c3,rfl,B,F⟩;rw[T.o] at B;have HG:Hid (Gives w (nv la*nv lb) (.returned (.slice a3 n3 c3)) w3):=Gives.mk B (HB.o.trans (F.mono HB.o.size));clear B F;go_wp2_with fail;go_ret;exact HG.o
theorem ru_nil(w:World):Ru w none 0 0 []:=⟨rfl,λx a=>(by cases a),λ_=>rfl,zc,.inl rfl,λ_ _ _ e _=>by cases e⟩
theorem mul_any(a b:Option Addr)(n k ca cb:Nat)(la lb:List Nat)(w:World)(ha:Ru w a n ca la)(hbb:Ru w b k cb lb)(hn:n≤100)(hk:k≤100):
  Calls Tryz.prog 138 #[.slice a n ca,.slice b k cb] w λe w'=>Gives w (nv la*nv lb) e w':=by
 by_cases g:n=0
 ·subst g;have c:la=[]:=List.eq_nil_of_length_eq_zero ha.len;have e:nv la*nv lb=0:=by rw[c];simp[nv]
  rw[e];have d:Hid (Gives w 0 (.returned (zS)) w):=Gives.mk (by rw[dig_zero];exact ru_nil w) zb;clear ha hbb c e;go_enter Tryz.func138,Tryz.ntmps138;go_wp2_with fail;go_ret;exact d.o
 ·by_cases f:k=0
  ·subst f;have c:lb=[]:=List.eq_nil_of_length_eq_zero hbb.len;have e:nv la*nv lb=0:=by rw[c];simp[nv]
   rw[e];have h:((n:Int)==0)=false:=beq_eq_false_iff_ne.2 (by omega);have d:Hid (Gives w 0 (.returned (zS)) w):=Gives.mk (by rw[dig_zero];exact ru_nil w) zb;clear ha hbb c e;go_enter Tryz.func138,Tryz.ntmps138;go_wp2_with fail;go_ret;exact d.o
  ·exact mul_some a b n k ca cb la lb w ha hbb (by omega) (by omega) hn hk
end words
end Go.Proofs.YtoepgdhiepedeaaGreatDoor
