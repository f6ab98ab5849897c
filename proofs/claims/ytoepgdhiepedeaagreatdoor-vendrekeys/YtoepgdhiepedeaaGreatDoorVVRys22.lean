import Derived.Test.YtoepgdhiepedeaaGreatDoorVVRys17
import Derived.Test.YtoepgdhiepedeaaGreatDoorVVRys19
import Derived.Test.YtoepgdhiepedeaaGreatDoorVVRys20
import Derived.Test.YtoepgdhiepedeaaGreatDoorVVRys21
set_option linter.unusedVariables false
set_option linter.unusedSimpArgs false
set_option maxHeartbeats 4000000
set_option maxRecDepth 100000
namespace Go.Proofs.YtoepgdhiepedeaaGreatDoor
namespace disk
open Go.RowKit cell
theorem sliT:SliT Tryz.prog 25 140:=⟨by kernel_rfl,Tryz.underlying140⟩
end disk
namespace book
open Go.RowKit
open acc (Ac Tm Bi APost BPost OweIs SellIs GrantIs RekeyIs)
theorem rhap3(a:Ac)(sol:List So)(dp:Option Addr)(dn dc:Nat)(sp:Option Addr)(sn sc:Nat)(t:Tm)(pt:Option Addr)(lt ct:Nat)(v:Ev)(base:Nat)(w:World)(hx:Has w base (cuA a dp dn dc sp sn sc) ⟨a,sol⟩)(ht:tar.RowD w pt lt t.ts)(htl:lt≤maxLen)(hbase:base≤w.heap.size)(hkd:v.kd=3)(hsol:sol.length≤2000000):
  Calls Tryz.prog 85 #[.agg #[.slice pt lt ct,zI t.ff,zI t.fb,zI t.db,zI t.al],.agg #[zI a.me,zI a.rv,zI a.nx,zI a.mo,zI a.bo,zI a.fr,.slice dp dn dc,.slice sp sn sc],.agg #[zI v.kd,zI v.me,zI v.mo,zI v.id,zI v.te,zI v.de,zI v.fe,zI v.pr,zI v.ch,zI v.un,zI v.tg,zI v.ow,zI v.bp]] w λe w'=>HapPost w base t (cuA a dp dn dc sp sn sc) ⟨a,sol⟩ v e w':=by
 have n2:(v.kd==2)=false:=by rw[hkd];rfl
 have n3:(v.kd==3)=true:=by rw[hkd];rfl
 have n4:(v.kd==4)=false:=by rw[hkd];rfl
 have n5:(v.kd==5)=false:=by rw[hkd];rfl
 have au:=zh hkd;have aE:Hid (v.kd≠5):=by show v.kd≠5;rw[hkd];decide
 clear hkd;have bM:Hid (zB w w):=zb;have HH:=zh hx;have aO:=zh hbase;have ab:Hid (∀k,(Value.slice sp sn sc).ownBlock=some k→k<w.heap.size):=λk hk=>(World.ownsRow.lt hx.so k hk).2;have bg:Hid (∀W,zB w W→zC 23 #[.agg #[zI a.me,zI a.rv,zI a.nx,zI a.mo,zI a.bo,zI a.fr,.slice dp dn dc],.agg #[.slice pt lt ct,zI t.ff,zI t.fb,zI t.db,zI t.al],zI v.mo] W λe w'=>BPost W (GrantIs a t v.mo) e w'):=λW hB=>acc.rgranted a dp dn dc t pt lt ct v.mo W (hx.ds.came.below hB).row hx.ds.came.most (ht.below hB) htl;clear hx ht htl hbase;obtain⟨W0,bx,bJ,Qx,Qv,Qr,b9,b6⟩:=sh4 w #[.slice pt lt ct,zI t.ff,zI t.fb,zI t.db,zI t.al] 24 #[zI a.me,zI a.rv,zI a.nx,zI a.mo,zI a.bo,zI a.fr,.slice dp dn dc,.slice sp sn sc] 71 #[zI v.kd,zI v.me,zI v.mo,zI v.id,zI v.te,zI v.de,zI v.fe,zI v.pr,zI v.ch,zI v.un,zI v.tg,zI v.ow,zI v.bp] 44 #[zI 0,zI 0,zI 0,zI 0,zI 0,zI 0,zS,zS] 71;go_enter Tryz.func85,Tryz.ntmps85;go_upto_region 1 with fail
 rw[bx.o];have c:=zh b6;clear b6;have F:=zy0 Qx;have G:=zy1 Qx;have H:=zy2 Qx;have I:=zy3 Qx;have J:=zy4 Qx;have L:=zy5 Qx;have M:=zy6 Qx;have N:=zy7 Qx;have p:=zy0 Qv;have r:=zy1 Qv;have s:=zy2 Qv;have x:=zy3 Qv;have z:=zy4 Qv;have A:=zy5 Qv;have B:=zy6 Qv;have C:=zy7 Qv;have D:=zy8 Qv;have E:=zy9 Qv;have d:=zy10 Qv;have i:=zy11 Qv;have j:=zy12 Qv;obtain⟨W1,bw,bI,Qa,Qb,aP,b7⟩:=sh3 W0 #[zI v.id,zI 0,zI v.un,zI v.tg,zI a.rv] 212 #[zI 0,zI 0,zI 0,zI 0,zI 0,zI 0,zS] 55 #[zI 0,zI 0,zI 0,zI 0,zI 0,zI 0,zI 0] 33;obtain⟨a7,X,n,bE⟩:=zn4 aP.o bJ Qx Qv Qr;have aN:=shB b9 aP.o;have aw:=zh b7;clear b7;go_upto_region 8 with fail
 rw[bw.o];clear F G H I J L M N p r s x z A B C D E d i j;generalize W0.heap.size=gs at *;have P:=zy0 a7;have Q:=zy1 a7;have R:=zy2 a7;have T:=zy3 a7;have V:=zy4 a7;have F:=zy0 X;have G:=zy1 X;have H:=zy2 X;have I:=zy3 X;have J:=zy4 X;have L:=zy5 X;have M:=zy6 X;have N:=zy7 X;have p:=zy0 n;have r:=zy1 n;have s:=zy2 n;have x:=zy3 n;have z:=zy4 n;have A:=zy5 n;have B:=zy6 n;have C:=zy7 n;have D:=zy8 n;have E:=zy9 n;have d:=zy10 n;have i:=zy11 n;have j:=zy12 n;have bf:=zh (bg.o W1 aN.o);go_wp2_with fail;refine bf.o.mono ?_;rintro e w2 ⟨b,l,pb,Z,cb,f,rfl,hi,hf,ac⟩;have HI:=zh hi;obtain⟨aY,b2,b0,bF,aW⟩:=zn5 ac a7 X n bE bI;obtain⟨bz,bC⟩:=zn2 ac Qa Qb;have ba:=shB aN ac;have aC:=zh hf;have bt:=zh ac.size;clear ac hf hi P Q R T V F G H I J L M N p r s x z A B C D E d i j;unfold acc.Ac.v acc.Ac.cs acc.Bi.v;obtain⟨P,Q,R,T,V⟩:=scl5 aY;obtain⟨F,G,H,I,J,L,M,N⟩:=scl8 b2;obtain⟨p,r,s,x,z,A,B,C,D,E,d,i,j⟩:=scl13 b0;obtain⟨a1,a2,a3,a4,a5⟩:=scl5 aW;go_wp2_with (first|(refine zql rfl rfl rfl rfl zqu55 (by simp[Value.oneCell']) bz rfl ?_)|fail)
 intro w3 m;have aZ:=zyk m aY (by have:=c.o;omega);have b3:=zyk m b2 (by have:=c.o;omega);have b1:=zyk m b0 (by have:=c.o;omega);have bG:=zyk m bF (by have:=c.o;omega);have aX:=zyk m aW (by have:=c.o;omega);have bA:=zyb m;have bD:=zyk m bC (by have:=c.o;omega);have be:Hid (zB w w3):=m.bel _ _ (by have:=c.o;omega) ba.o;have aD:Hid (deb.Fresh w3 W1.heap.size pb Z cb b.ds):=⟨acc_upd aC.o.came m (λhn y hy q=>by have h1:=aC.o.new hn y hy;have h2:=aw.o;omega),aC.o.new⟩
 have bu:Hid (w2.heap.size=w3.heap.size):=m.size.symm;clear m P Q R T V F G H I J L M N p r s x z A B C D E d i j a1 a2 a3 a4 a5;obtain⟨P,Q,R,T,V⟩:=scl5 aZ;obtain⟨F,G,H,I,J,L,M,N⟩:=scl8 b3;obtain⟨p,r,s,x,z,A,B,C,D,E,d,i,j⟩:=scl13 b1;obtain⟨a1,a2,a3,a4,a5⟩:=scl5 aX;go_wp2_with (first|(refine zql rfl rfl rfl rfl zqu33 (by simp[Value.oneCell']) bD rfl ?_)|fail)
 intro w4 m;have aL:=zyk m aZ (by have:=c.o;omega);have ax:=zyk m b3 (by have:=c.o;omega);have aM:=zyk m b1 (by have:=c.o;omega);have bH:=zyk m bG (by have:=c.o;omega);have aK:=zyk m aX (by have:=c.o;omega);have bB:=zyk m bA (by have:=c.o;omega);have aJ:=zyb m;have az:Hid (zB w w4):=m.bel _ _ (by have:=c.o;omega) be.o;have bh:Hid (deb.Fresh w4 W1.heap.size pb Z cb b.ds):=⟨acc_upd aD.o.came m (λhn y hy q=>by have h1:=aD.o.new hn y hy;have h2:=aw.o;omega),aD.o.new⟩
 have bv:Hid (w3.heap.size=w4.heap.size):=m.size.symm;clear m P Q R T V F G H I J L M N p r s x z A B C D E d i j a1 a2 a3 a4 a5;have a6:Hid (w.heap.size≤W1.heap.size):=by have h1:=aw.o;have h2:=c.o;show _≤_;omega
 have br:Hid (W1.heap.size≤w4.heap.size):=by show _≤_;have:=bt.o;have:=bu.o;have:=bv.o;omega
 by_cases a8:f=0
 ·have aR:Hid (f=0):=a8;have nf:(f != 0)=false:=by simpa using a8
  clear a8;by_cases a9:l=billOf v
  ·have aF:Hid (l=billOf v):=a9;have qe:∀wz:World,(Op.equalIn 10000 33 (.agg #[zI l.id,zI l.te,zI l.de,zI l.fe,zI l.pr,zI l.ch,zI l.un]) (.agg #[zI v.id,zI v.te,zI v.de,zI v.fe,zI v.pr,zI v.ch,zI v.un])).run Tryz.prog wz=.ok true wz:=λwz=>by rw[a9,show (10000:Nat)=9998+2 from rfl,eqBi];unfold billOf;simp
   clear a9;obtain⟨P,Q,R,T,V⟩:=scl5 aL;obtain⟨F,G,H,I,J,L,M,N⟩:=scl8 ax;obtain⟨p,r,s,x,z,A,B,C,D,E,d,i,j⟩:=scl13 aM;obtain⟨af,ag,ah,ai,aj,ak,am⟩:=scl7 aJ;go_upto_region 20 with fail
   clear P Q R T V F G H I J L M N p r s x z A B C D E d i j af ag ah ai aj ak am;have aH:Hid ((λu:World=>Blk u (gs+1) #[zI b.me,zI b.rv,zI b.nx,zI b.mo,zI b.bo,zI b.fr,.slice pb Z cb] 55∧Blk u (w.heap.size+1) #[zI a.me,zI a.rv,zI a.nx,zI a.mo,zI a.bo,zI a.fr,.slice dp dn dc,.slice sp sn sc] 71∧Blk u gs #[zI v.id,zI 0,zI v.un,zI v.tg,zI a.rv] 212) w4.drew):=⟨bB.o,ax.o,aK.o⟩
   refine wp_region_held_drew (S:=(λu:World=>Blk u (gs+1) #[zI b.me,zI b.rv,zI b.nx,zI b.mo,zI b.bo,zI b.fr,.slice pb Z cb] 55∧Blk u (w.heap.size+1) #[zI a.me,zI a.rv,zI a.nx,zI a.mo,zI a.bo,zI a.fr,.slice dp dn dc,.slice sp sn sc] 71∧Blk u gs #[zI v.id,zI 0,zI v.un,zI v.tg,zI a.rv] 212)) (by kernel_rfl) aH.o (λY=>?_);refine zu' 0 (.agg #[zI b.me,zI b.rv,zI b.nx,zI b.mo,zI b.bo,zI b.fr,.slice pb Z cb]) rfl rfl (yieldsIf_whole (by rfl) 55 _ rfl (gs+1) rfl 55 #[zI b.me,zI b.rv,zI b.nx,zI b.mo,zI b.bo,zI b.fr,.slice pb Z cb] _ (λu hu=>hu.1) Tryz.underlying55 rfl (by kernel_rfl)) ?_;refine zt' 1 (.pointer (some ⟨w.heap.size+1,7,none⟩)) ?_;refine zu' 2 (.slice sp sn sc) rfl rfl (Or.inl ⟨by rfl,λv hv=>by have h2:=hv.2.1.cell 7;clear hv;go_simp⟩) ?_;refine zu' 3 (.agg #[zI v.id,zI 0,zI v.un,zI v.tg,zI a.rv]) rfl rfl (yieldsIf_whole (by rfl) 212 _ rfl (gs) rfl 212 #[zI v.id,zI 0,zI v.un,zI v.tg,zI a.rv] _ (λu hu=>hu.2.2) Tryz.underlying212 rfl (by kernel_rfl)) ?_;have an:Hid (Blk w4.drew (gs+1) #[zI b.me,zI b.rv,zI b.nx,zI b.mo,zI b.bo,zI b.fr,.slice pb Z cb] 55∧Blk w4.drew (w.heap.size+1) #[zI a.me,zI a.rv,zI a.nx,zI a.mo,zI a.bo,zI a.fr,.slice dp dn dc,.slice sp sn sc] 71∧Blk w4.drew gs #[zI v.id,zI 0,zI v.un,zI v.tg,zI a.rv] 212):=aH.o;have aT:Hid (Blk w4.drew (w.heap.size+1+1+1) #[zI 0,zI 0,zI 0,zI 0,zI 0,zI 0,zS,zS] 71):=bH.o;have aa:Hid (zB w w4.drew):=az.o.drew;have aQ:Hid (deb.Fresh w4.drew W1.heap.size pb Z cb b.ds):=drew_fresh bh.o;have aV:Hid (W1.heap.size≤w4.drew.heap.size):=br.o;have aS:Hid (Lo w4.drew base (.slice sp sn sc) sol):=HH.o.so.next aa.o;clear aH;generalize w4.drew=U at *;refine zo 4 λK hK=>?_;rw[if_pos (by rfl)];have ap:Hid (Blk (U.alloc (.cells #[zI v.id,zI 0,zI v.un,zI v.tg,zI a.rv] 212)) (gs+1) #[zI b.me,zI b.rv,zI b.nx,zI b.mo,zI b.bo,zI b.fr,.slice pb Z cb] 55∧Blk (U.alloc (.cells #[zI v.id,zI 0,zI v.un,zI v.tg,zI a.rv] 212)) (w.heap.size+1) #[zI a.me,zI a.rv,zI a.nx,zI a.mo,zI a.bo,zI a.fr,.slice dp dn dc,.slice sp sn sc] 71∧Blk (U.alloc (.cells #[zI v.id,zI 0,zI v.un,zI v.tg,zI a.rv] 212)) gs #[zI v.id,zI 0,zI v.un,zI v.tg,zI a.rv] 212):=⟨an.o.1.alloc _,an.o.2.1.alloc _,an.o.2.2.alloc _⟩
   have aU:=zya aT (.cells #[zI v.id,zI 0,zI v.un,zI v.tg,zI a.rv] 212);have aA:=zyf aa (.cells #[zI v.id,zI 0,zI v.un,zI v.tg,zI a.rv] 212);have aq:Hid (deb.Fresh (U.alloc (.cells #[zI v.id,zI 0,zI v.un,zI v.tg,zI a.rv] 212)) W1.heap.size pb Z cb b.ds):=aQ.o.below (zb.alloc zc _);have bl:Hid (Lo (U.alloc (.cells #[zI v.id,zI 0,zI v.un,zI v.tg,zI a.rv] 212)) base (.slice sp sn sc) sol):=aS.o.alloc _;have bm:=zye U #[zI v.id,zI 0,zI v.un,zI v.tg,zI a.rv] 212;have bN:Hid (W1.heap.size≤(U.alloc (.cells #[zI v.id,zI 0,zI v.un,zI v.tg,zI a.rv] 212)).heap.size):=cell.alloc_le aV.o _;refine wp_runOp (v:=.slice (some ⟨U.heap.size,0,none⟩) 1 1) (w':=(U.alloc (.cells #[zI v.id,zI 0,zI v.un,zI v.tg,zI a.rv] 212))) 100 rfl (by clear hK;go_simp) ?_;refine hK.o _ _ ap.o (λY=>?_);clear hK an aT aa aQ aS aV;simp only[Act.put,zq];generalize U.heap.size=gn at *;generalize U.alloc _=U2 at *;refine zo 5 λK hK=>?_;rw[if_pos (by rfl)];have bq:Hid (w.heap.size+1+1+1<U2.heap.size):=aU.o.lt;refine step_sold 101 rfl _ _ rfl base gn _ sol ⟨v.id,0,v.un,v.tg,a.rv⟩ rfl rfl bl.o bm.o hsol (Nat.le_trans aO.o aA.o.size) ?_;intro v3 w9 h3 ay b5;obtain⟨p3,c3,rfl,_,_,_⟩:=h3.row;have ae:∀g,w.heap.size≤g→some g≠(Value.slice sp sn sc).ownBlock:=λg hg q=>by have:=ab.o g q.symm;omega
   have ad:∀g cs ty,w.heap.size≤g→Blk U2 g cs ty→Blk w9 g cs ty:=λg cs ty hg hb=>by show w9.heap[g]?=_;rw[ay.block g hb.lt (ae g hg)];exact hb
   have ao:Hid (Blk w9 (gs+1) #[zI b.me,zI b.rv,zI b.nx,zI b.mo,zI b.bo,zI b.fr,.slice pb Z cb] 55∧Blk w9 (w.heap.size+1) #[zI a.me,zI a.rv,zI a.nx,zI a.mo,zI a.bo,zI a.fr,.slice dp dn dc,.slice sp sn sc] 71∧Blk w9 gs #[zI v.id,zI 0,zI v.un,zI v.tg,zI a.rv] 212):=⟨ad _ _ _ (by have:=c.o;omega) ap.o.1,ad _ _ _ (by omega) ap.o.2.1,ad _ _ _ (by have:=c.o;omega) ap.o.2.2⟩
   have bn:Hid (Blk w9 (w.heap.size+1+1+1) #[zI 0,zI 0,zI 0,zI 0,zI 0,zI 0,zS,zS] 71):=ad _ _ _ (by omega) aU.o;have bj:Hid (w.grownBy w9 (Value.slice sp sn sc).ownBlock):=(grown_of aA.o _).trans ay;have bi:Hid (tar.Came w9 pb Z cb b.ds):=came_grown aq.o.came ay (λhn y hy=>ae _ (Nat.le_trans a6.o (aq.o.new hn y hy)));have ar:Hid (0<Z→∀y,pb=some y→W1.heap.size≤y.block∧y.block<U2.heap.size):=λhn y hy=>⟨aq.o.new hn y hy,by obtain⟨bb,oo,e,bL,_⟩:=aq.o.came.row.at hn;rw[hy] at e;rw[Option.some.inj e];exact bL⟩;have bk:=zh h3;have aG:=zh b5;have bs:=zh aA.o.size;refine hK.o _ _ ao.o (λY=>?_);clear hK h3 ay b5 ae ad;simp only[Act.put,zq];generalize (sol++[(⟨v.id,0,v.un,v.tg,a.rv⟩:So)]).length=n3 at *;refine zt' 6 (.agg #[zI b.me,zI b.rv,zI b.nx,zI b.mo,zI b.bo,zI b.fr,.slice pb Z cb,.slice p3 n3 c3]) ?_;refine zo 7 λK hK=>?_;rw[if_pos (by rfl)];refine wp_letOp 71 _ _ rfl (w.heap.size+1+1+1) rfl #[zI b.me,zI b.rv,zI b.nx,zI b.mo,zI b.bo,zI b.fr,.slice pb Z cb,.slice p3 n3 c3] rfl (by kernel_rfl) (by simp[Value.oneCell']) #[zI 0,zI 0,zI 0,zI 0,zI 0,zI 0,zS,zS] 71 bn.o rfl rfl ?_;intro WF m;have O:=zyb m;have aI:=zh m;have b8:Hid (Blk WF (gs+1) #[zI b.me,zI b.rv,zI b.nx,zI b.mo,zI b.bo,zI b.fr,.slice pb Z cb] 55∧Blk WF (w.heap.size+1) #[zI a.me,zI a.rv,zI a.nx,zI a.mo,zI a.bo,zI a.fr,.slice dp dn dc,.slice sp sn sc] 71∧Blk WF gs #[zI v.id,zI 0,zI v.un,zI v.tg,zI a.rv] 212):=⟨m.keep ao.o.1 (by have:=c.o;omega),m.keep ao.o.2.1 (by omega),m.keep ao.o.2.2 (by have:=c.o;omega)⟩
   refine hK.o _ _ b8.o (λY=>?_);clear hK m;refine zt' 8 (zI 0) ?_;refine wpAnyH_done (by kernel_rfl) ?_ _;clear Y
   have a0:Hid (HapPost w base t (cuA a dp dn dc sp sn sc) ⟨a,sol⟩ v (.returned (.tuple #[.agg #[zI b.me,zI b.rv,zI b.nx,zI b.mo,zI b.bo,zI b.fr,.slice pb Z cb,.slice p3 n3 c3],zI 0])) WF):=by
    have b4:=grown_upd bj.o aI.o (by omega);have bK:soldOf ⟨a,sol⟩ v=⟨v.id,0,v.un,v.tg,a.rv⟩:=by unfold soldOf;rw[if_neg (by rw[au.o];decide)]
    refine⟨cuA b pb Z cb p3 n3 c3,⟨b,sol++[soldOf ⟨a,sol⟩ v]⟩,0,rfl,.inr ⟨aE.o,b,l,f,.inr (.inl ⟨au.o,HI.o⟩),.inr (.inr ⟨aR.o,aF.o,rfl,rfl⟩)⟩,λ_=>?_,b4⟩;rw[bK];refine⟨b4,⟨cuA_num _ _ _ _ _ _ _,⟨acc_upd bi.o aI.o (λhn y hy q=>by have h1:=(ar.o hn y hy).1;have h2:=aw.o;have h3:=c.o;omega),λhn y hy=>by have h1:=(ar.o hn y hy).1;have h2:=a6.o;have h3:=aO.o;omega⟩,lo_upd bk.o aI.o (λg hg q=>?_)⟩,λg hg=>?_,λhn y hy=>Nat.le_trans a6.o (ar.o hn y hy).1,λg hg hn y hy q=>?_⟩
    ·have h0:(Value.slice p3 n3 c3).ownBlock=some g:=hg;rcases aG.o with e|e
     ·rw[e] at h0;have:=ab.o g h0;omega
     ·rw[e] at h0;have h1:=Option.some.inj h0;have h2:=bq.o;omega
    ·rcases aG.o with e|e
     ·exact .inl (e.symm.trans hg)
     ·refine .inr ?_;have h0:(Value.slice p3 n3 c3).ownBlock=some g:=hg;rw[e] at h0;have h1:=Option.some.inj h0;have h2:=bs.o;omega
    ·have h0:(Value.slice p3 n3 c3).ownBlock=some g:=hg;have h1:=ar.o hn y hy;rcases aG.o with e|e
     ·rw[e] at h0;have h2:=ab.o g h0;have h3:=a6.o;omega
     ·rw[e] at h0;have h2:=Option.some.inj h0;omega
   go_wp2_with fail;exact zr (.tuple #[.agg #[zI b.me,zI b.rv,zI b.nx,zI b.mo,zI b.bo,zI b.fr,.slice pb Z cb,.slice p3 n3 c3],zI 0]) (by simp[results,Tryz.results85,zy0 O,zy1 O,zy2 O,zy3 O,zy4 O,zy5 O,zy6 O,zy7 O,go_sem]) a0.o
  ·have aF:=zh a9;have qe:∀wz:World,(Op.equalIn 10000 33 (.agg #[zI l.id,zI l.te,zI l.de,zI l.fe,zI l.pr,zI l.ch,zI l.un]) (.agg #[zI v.id,zI v.te,zI v.de,zI v.fe,zI v.pr,zI v.ch,zI v.un])).run Tryz.prog wz=.ok false wz:=λwz=>by rw[show (10000:Nat)=9998+2 from rfl,eqBi];exact congrArg (λq=>Result.ok q wz) (decide_eq_false (bill_ne a9))
   clear a9;have av:Hid (¬ (8:Int)=0):=by show ¬ (8:Int)=0;decide
   obtain⟨P,Q,R,T,V⟩:=scl5 aL;obtain⟨F,G,H,I,J,L,M,N⟩:=scl8 ax;obtain⟨p,r,s,x,z,A,B,C,D,E,d,i,j⟩:=scl13 aM;obtain⟨a1,a2,a3,a4,a5⟩:=scl5 aK;obtain⟨af,ag,ah,ai,aj,ak,am⟩:=scl7 aJ;go_wp2_with refine zs ?_;intro WF m;have O:=zyb m;have aB:=zk m az;clear m P Q R T V F G H I J L M N p r s x z A B C D E d i j a1 a2 a3 a4 a5 af ag ah ai aj ak am;have a0:Hid (HapPost w base t (cuA a dp dn dc sp sn sc) ⟨a,sol⟩ v (.returned (.tuple #[.agg #[zI 0,zI 0,zI 0,zI 0,zI 0,zI 0,zS,zS],zI 8])) WF):=⟨cu0,cm0,8,rfl,.inr ⟨aE.o,b,l,f,.inr (.inl ⟨au.o,HI.o⟩),.inr (.inl ⟨aR.o,aF.o,rfl⟩)⟩,λh=>absurd h av.o,grown_of aB.o _⟩
   go_wp2_with fail;exact zr (.tuple #[.agg #[zI 0,zI 0,zI 0,zI 0,zI 0,zI 0,zS,zS],zI 8]) (by simp[results,Tryz.results85,scl8 O,go_sem]) a0.o
 ·have av:=zh a8;have nf:(f != 0)=true:=by simpa using a8
  clear a8;obtain⟨P,Q,R,T,V⟩:=scl5 aL;obtain⟨F,G,H,I,J,L,M,N⟩:=scl8 ax;obtain⟨p,r,s,x,z,A,B,C,D,E,d,i,j⟩:=scl13 aM;obtain⟨a1,a2,a3,a4,a5⟩:=scl5 aK;obtain⟨af,ag,ah,ai,aj,ak,am⟩:=scl7 aJ;go_wp2_with refine zs ?_;intro WF m;have O:=zyb m;have aB:=zk m az;clear m P Q R T V F G H I J L M N p r s x z A B C D E d i j a1 a2 a3 a4 a5 af ag ah ai aj ak am;have a0:Hid (HapPost w base t (cuA a dp dn dc sp sn sc) ⟨a,sol⟩ v (.returned (.tuple #[.agg #[zI 0,zI 0,zI 0,zI 0,zI 0,zI 0,zS,zS],zI f])) WF):=⟨cu0,cm0,f,rfl,.inr ⟨aE.o,b,l,f,.inr (.inl ⟨au.o,HI.o⟩),.inl ⟨av.o,rfl⟩⟩,λh=>absurd h av.o,grown_of aB.o _⟩
  go_wp2_with fail;exact zr (.tuple #[.agg #[zI 0,zI 0,zI 0,zI 0,zI 0,zI 0,zS,zS],zI f]) (by simp[results,Tryz.results85,scl8 O,go_sem]) a0.o
def KOf:Prop:=∀(W:World)(t:acc.Tm)(pt:Option Addr)(lt ct:Nat)(pl:Option Addr)(n cap:Nat)(l:List Ev),acc.TCame W t pt lt ct→ECame W pl n cap l→zC 72 #[t.v pt lt ct,.slice pl n cap] W λe w'=>BookPost W t l e w'
end book
namespace words
open Go.RowKit
theorem Bg.parts{w:World}{z m:Nat}(h:Bg w z m):∃a n c,w.cell? ⟨z,0,none⟩=some (.bool false)∧w.cell? ⟨z,1,none⟩=some (.slice a n c)∧Ru w a n c (dig m):=by
 obtain⟨a,n,c,b,d⟩:=h;obtain⟨c0,c1,_,_⟩:=ob_cells b;exact⟨a,n,c,c0,c1,d⟩
def OpPost(w:World)(z r:Nat)(e:Ending)(w':World):Prop:=e=.returned (.pointer (some ⟨z,0,none⟩))∧Bg w' z r∧Ex w w' z
variable{w w1:World}
theorem cell_bel{p:Addr}{v:Value}(hb:zB w w1)(h:w.cell? p=some v):w1.cell? p=some v:=(hb.cell (World.block_lt_of_cell? w p h)).trans h
theorem cell_ex{z y i:Nat}{v:Value}(he:Ex w w1 z)(h:w.cell? ⟨y,i,none⟩=some v)(hne:y≠z):w1.cell? ⟨y,i,none⟩=some v:=
 (World.cell?_of_block (w:=w) (a:=⟨y,i,none⟩) (he.block y (World.block_lt_of_cell? w _ h) hne)).trans h
theorem neg_ex{z x:Nat}{v u:Value}(he:Ex w w1 z)(hz:w1.heap[z]?=some (.cells #[.bool false,u] 218 (0,0)))(h:w.cell? ⟨x,0,none⟩=some v)(hv:v=.bool false):w1.cell? ⟨x,0,none⟩=some (.bool false):=by
 subst hv;by_cases e:x=z
 ·subst e;exact(ob_cells hz).1
 ·exact cell_ex he h e
def SumGives(w:World)(m:Nat)(e:Ending)(w':World):Prop:=∃a n cap,e=.returned (.tuple #[.bool false,.slice a n cap])∧Ru w' a n cap (dig m)∧zB w w'
theorem SumGives.mk{w w':World}{m n cap:Nat}{a:Option Addr}(h1:Ru w' a n cap (dig m))(h2:zB w w'):SumGives w m (.returned (.tuple #[.bool false,.slice a n cap])) w':=⟨a,n,cap,rfl,h1,h2⟩
theorem sum_plus(a b:Option Addr)(n k ca cb:Nat)(la lb:List Nat)(w:World)(ha:Ru w a n ca la)(hb:Ru w b k cb lb)(hn:n≤100)(hk:k≤100):
  Calls Tryz.prog 139 #[.bool false,.slice a n ca,.bool false,.slice b k cb] w λe w'=>SumGives w (nv la+nv lb) e w':=by
 have l:(false==false)=true:=rfl;have d:Hid (zC 177 #[.slice a n ca,.slice b k cb] w λe w'=>Gives w (nv la+nv lb) e w'):=add_any a b n k ca cb la lb w ha hb hn hk;clear ha hb;go_enter Tryz.func139,Tryz.ntmps139;go_wp2_with fail;refine d.o.mono ?_;rintro e j ⟨g,i,h,rfl,c,hb⟩;have f:Hid (SumGives w (nv la+nv lb) (.returned (.tuple #[.bool false,.slice g i h])) j):=SumGives.mk c hb;clear c hb;go_wp2_with fail;go_ret2;exact f.o
theorem Mul_any(z x y m k:Nat)(w:World)(hx:Bg w x m)(hy:Bg w y k)(hz:Ob w z)(hyz:y≠z)(hm:(dig m).length≤100)(hk:(dig k).length≤100):
  Calls Tryz.prog 93 #[.pointer (some ⟨z,0,none⟩),.pointer (some ⟨x,0,none⟩),.pointer (some ⟨y,0,none⟩)] w λe w'=>OpPost w z (m*k) e w':=by
 obtain⟨G,I,H,R,U,u⟩:=hx.parts;obtain⟨h,l,j,T,y1,A⟩:=hy.parts;have N:(false != false)=false:=rfl
 have J:Hid (∀w',zB w w'→zC 138 #[.slice G I H,.slice h l j] w' λe t=>Gives w' (m*k) e t):=λw' f=>by
  have:=mul_any G h I l H j _ _ w' (u.below f) (A.below f) (by rw[← u.len];exact hm) (by rw[← A.len];exact hk)
  rwa [nv_dig,nv_dig] at this
 have C:Hid (Ob w z):=hz;have E:Hid (zB w w.drew):=(Below.refl _ w).drew;have n:Hid (w.drew.cell? ⟨x,0,none⟩=some (.bool false)∧w.drew.cell? ⟨y,0,none⟩=some (.bool false)∧w.drew.cell? ⟨y,1,none⟩=some (.slice h l j)):=⟨R,T,y1⟩
 clear hx hy hz u A hm hk;go_enter Tryz.func93,Tryz.ntmps93;go_wp2_with fail;refine wp_region_held_drew (S:=λg=>g.cell? ⟨x,0,none⟩=some (.bool false)∧g.cell? ⟨y,0,none⟩=some (.bool false)∧g.cell? ⟨y,1,none⟩=some (.slice h l j)) (by kernel_rfl) n.o ?_;intro M;refine wpAnyH_take (i:=0) (v:=?v1) rfl (by kernel_rfl) (by kernel_rfl) (by kernel_rfl) zid (Or.inl ⟨by rfl,?y1⟩) (by assumption) ?_
 case y1=>(intro w a;(try dsimp only at a);go_simp;try (with_reducible rfl))
 try simp only[Act.put]
 try simp only[List.setIfInBounds_toArray]
 try simp only[List.set_cons_succ]
 try simp only[List.set_cons_zero]
 refine wpAnyH_take (i:=1) (v:=?v2) rfl (by kernel_rfl) (by kernel_rfl) (by kernel_rfl) zid (Or.inl ⟨by rfl,?y2⟩) (by assumption) ?_
 case y2=>(intro w a;(try dsimp only at a);go_simp;try (with_reducible rfl))
 try simp only[Act.put]
 try simp only[List.setIfInBounds_toArray]
 try simp only[List.set_cons_succ]
 try simp only[List.set_cons_zero]
 refine wpAnyH_take (i:=2) (v:=?v3) rfl (by kernel_rfl) (by kernel_rfl) (by kernel_rfl) zid (Or.inl ⟨by rfl,?y3⟩) (by assumption) ?_
 case y3=>(intro w a;(try dsimp only at a);go_simp;try (with_reducible rfl))
 try simp only[Act.put]
 try simp only[List.setIfInBounds_toArray]
 try simp only[List.set_cons_succ]
 try simp only[List.set_cons_zero]
 refine wpAnyH_take (i:=3) (v:=?v4) rfl (by kernel_rfl) (by kernel_rfl) (by kernel_rfl) zid (Or.inl ⟨by rfl,?y4⟩) (by assumption) ?_
 case y4=>(intro w a;(try dsimp only at a);go_simp;try (with_reducible rfl))
 try simp only[Act.put]
 try simp only[List.setIfInBounds_toArray]
 try simp only[List.set_cons_succ]
 try simp only[List.set_cons_zero]
 refine wpAnyH_take (i:=4) (v:=?v5) rfl (by kernel_rfl) (by kernel_rfl) (by kernel_rfl) zid (Or.inl ⟨by rfl,?y5⟩) (by assumption) ?_
 case y5=>(intro w a;(try dsimp only at a);go_simp;try (with_reducible rfl))
 try simp only[Act.put]
 try simp only[List.setIfInBounds_toArray]
 try simp only[List.set_cons_succ]
 try simp only[List.set_cons_zero]
 refine wpAnyH_take (i:=5) (v:=?v6) rfl (by kernel_rfl) (by kernel_rfl) (by kernel_rfl) zid (Or.inl ⟨by rfl,?y6⟩) (by assumption) ?_
 case y6=>(intro w a;(try dsimp only at a);go_simp;try (with_reducible rfl))
 try simp only[Act.put]
 try simp only[List.setIfInBounds_toArray]
 try simp only[List.set_cons_succ]
 try simp only[List.set_cons_zero]
 refine wpAnyH_take (i:=6) (v:=?v7) rfl (by kernel_rfl) (by kernel_rfl) (by kernel_rfl) zid (Or.inl ⟨by rfl,?y7⟩) (by assumption) ?_
 case y7=>(intro w a;(try dsimp only at a);go_simp;try (with_reducible rfl))
 try simp only[Act.put]
 try simp only[List.setIfInBounds_toArray]
 try simp only[List.set_cons_succ]
 try simp only[List.set_cons_zero]
 refine wpAnyH_take (i:=7) (v:=?v8) rfl (by kernel_rfl) (by kernel_rfl) (by kernel_rfl) zid (Or.inl ⟨by rfl,?y8⟩) (by assumption) ?_
 case y8=>(intro w a;(try dsimp only at a);go_simp;try (with_reducible rfl))
 try simp only[Act.put]
 try simp only[List.setIfInBounds_toArray]
 try simp only[List.set_cons_succ]
 try simp only[List.set_cons_zero]
 refine wpAnyH_take (i:=8) (v:=?v9) rfl (by kernel_rfl) (by kernel_rfl) (by kernel_rfl) zid (Or.inl ⟨by rfl,?y9⟩) (by assumption) ?_
 case y9=>(intro w a;(try dsimp only at a);go_simp;try (with_reducible rfl))
 try simp only[Act.put]
 try simp only[List.setIfInBounds_toArray]
 try simp only[List.set_cons_succ]
 try simp only[List.set_cons_zero]
 refine wpAnyH_take (i:=9) (v:=?v10) rfl (by kernel_rfl) (by kernel_rfl) (by kernel_rfl) zid (Or.inl ⟨by rfl,?y10⟩) (by assumption) ?_
 case y10=>(intro w a;(try dsimp only at a);go_simp;try (with_reducible rfl))
 try simp only[Act.put]
 try simp only[List.setIfInBounds_toArray]
 try simp only[List.set_cons_succ]
 try simp only[List.set_cons_zero]
 refine wpAnyH_take (i:=10) (v:=?v11) rfl (by kernel_rfl) (by kernel_rfl) (by kernel_rfl) zid (Or.inl ⟨by rfl,?y11⟩) (by assumption) ?_
 case y11=>(intro w a;(try dsimp only at a);go_simp;try (with_reducible rfl))
 try simp only[Act.put]
 try simp only[List.setIfInBounds_toArray]
 try simp only[List.set_cons_succ]
 try simp only[List.set_cons_zero]
 refine wpAnyH_take (i:=11) (v:=?v12) rfl (by kernel_rfl) (by kernel_rfl) (by kernel_rfl) zid (Or.inl ⟨by rfl,?y12⟩) (by assumption) ?_
 case y12=>(intro w a;(try dsimp only at a);go_simp;try (with_reducible rfl))
 try simp only[Act.put]
 try simp only[List.setIfInBounds_toArray]
 try simp only[List.set_cons_succ]
 try simp only[List.set_cons_zero]
 refine wpAnyH_take (i:=12) (v:=?v13) rfl (by kernel_rfl) (by kernel_rfl) (by kernel_rfl) zid (Or.inl ⟨by rfl,?y13⟩) (by assumption) ?_
 case y13=>(intro w a;(try dsimp only at a);go_simp;try (with_reducible rfl))
 try simp only[Act.put]
 try simp only[List.setIfInBounds_toArray]
 try simp only[List.set_cons_succ]
 try simp only[List.set_cons_zero]
 refine wpAnyH_take (i:=14) (v:=?v14) rfl (by kernel_rfl) (by kernel_rfl) (by kernel_rfl) zid (Or.inl ⟨by rfl,?y14⟩) (by assumption) ?_
 case y14=>(intro w a;(try dsimp only at a);go_simp;try (with_reducible rfl))
 try simp only[Act.put]
 try simp only[List.setIfInBounds_toArray]
 try simp only[List.set_cons_succ]
 try simp only[List.set_cons_zero]
 refine wpAnyH_take (i:=15) (v:=?v15) rfl (by kernel_rfl) (by kernel_rfl) (by kernel_rfl) zid (Or.inl ⟨by rfl,?y15⟩) (by assumption) ?_
 case y15=>(intro w a;(try dsimp only at a);go_simp;try (with_reducible rfl))
 try simp only[Act.put]
 try simp only[List.setIfInBounds_toArray]
 try simp only[List.set_cons_succ]
 try simp only[List.set_cons_zero]
 refine wpAnyH_take (i:=16) (v:=?v16) rfl (by kernel_rfl) (by kernel_rfl) (by kernel_rfl) zid (Or.inl ⟨by rfl,?y16⟩) (by assumption) ?_
 case y16=>(intro w a;(try dsimp only at a);go_simp;try (with_reducible rfl))
 try simp only[Act.put]
 try simp only[List.setIfInBounds_toArray]
 try simp only[List.set_cons_succ]
 try simp only[List.set_cons_zero]
 refine wpAnyH_take (i:=17) (v:=?v17) rfl (by kernel_rfl) (by kernel_rfl) (by kernel_rfl) zid (Or.inl ⟨by rfl,?y17⟩) (by assumption) ?_
 case y17=>(intro w a;(try dsimp only at a);go_simp;try (with_reducible rfl))
 try simp only[Act.put]
 try simp only[List.setIfInBounds_toArray]
 try simp only[List.set_cons_succ]
 try simp only[List.set_cons_zero]
 refine wpAnyH_ready (rs:=[13]) (by kernel_rfl) (by simp) ?_;refine AllReadyH.cons rfl (λK d=>?_) AllReadyH.nil;go_simp;refine d.o _ _ n.o (λb=>?_);clear d K;refine wpAnyH_ready (rs:=[18]) (by kernel_rfl) (by simp) ?_;refine AllReadyH.cons rfl (λK d=>?_) AllReadyH.nil;go_simp;go_wp2_with fail;refine(J.o _ E.o).mono ?_;rintro e g ⟨O,Q,P,rfl,F,f⟩;have r:=shB E f;have q:Hid (g.cell? ⟨x,0,none⟩=some (.bool false)∧g.cell? ⟨y,0,none⟩=some (.bool false)∧g.cell? ⟨y,1,none⟩=some (.slice h l j)):=⟨cell_bel f n.o.1,cell_bel f n.o.2.1,cell_bel f n.o.2.2⟩
 have L:Hid (Ru g O Q P (dig (m*k))):=F;clear f F
 try go_simp
 refine d.o _ _ q.o (λb=>?_);clear d K;refine wpAnyH_ready (rs:=[19]) (by kernel_rfl) (by simp) ?_;refine AllReadyH.cons rfl (λK d=>?_) AllReadyH.nil;go_simp;go_wp2_with fail;refine(give_any z _ _ _ _ (C.o.below r.o)).mono ?_;rintro e p ⟨rfl,s,c⟩;have D:Hid (p.cell? ⟨x,0,none⟩=some (.bool false)∧p.cell? ⟨y,0,none⟩=some (.bool false)∧p.cell? ⟨y,1,none⟩=some (.slice h l j)):=⟨neg_ex c s q.o.1 rfl,cell_ex c q.o.2.1 hyz,cell_ex c q.o.2.2 hyz⟩
 have B:Hid (Bg p z (m*k)∧Ex w p z):=⟨⟨_,_,_,s,L.o.ex (C.o.below r.o) c⟩,Ex.of r.o c⟩
 clear s c
 try go_simp
 refine d.o _ _ D.o (λb=>?_);clear d K;refine wpAnyH_ready (rs:=[20]) (by kernel_rfl) (by simp) ?_;refine AllReadyH.cons rfl (λK d=>?_) AllReadyH.nil;go_simp;refine d.o _ _ D.o (λb=>?_);clear d K;refine wpAnyH_done (by kernel_rfl) ?_ _;go_wp2_with fail;go_ret;exact⟨rfl,B.o.1,B.o.2⟩
theorem Add_any(z x y m k:Nat)(w:World)(hx:Bg w x m)(hy:Bg w y k)(hz:Ob w z)(hyz:y≠z)(hm:(dig m).length≤100)(hk:(dig k).length≤100):
  Calls Tryz.prog 94 #[.pointer (some ⟨z,0,none⟩),.pointer (some ⟨x,0,none⟩),.pointer (some ⟨y,0,none⟩)] w λe w'=>OpPost w z (m+k) e w':=by
 obtain⟨G,I,H,R,V,u⟩:=hx.parts;obtain⟨h,l,j,T,U,A⟩:=hy.parts;have N:(false != false)=false:=rfl
 have J:Hid (∀w',zB w w'→zC 139 #[.bool false,.slice G I H,.bool false,.slice h l j] w' λe t=>SumGives w' (m+k) e t):=λw' f=>by
  have:=sum_plus G h I l H j _ _ w' (u.below f) (A.below f) (by rw[← u.len];exact hm) (by rw[← A.len];exact hk)
  rwa [nv_dig,nv_dig] at this
 have C:Hid (Ob w z):=hz;have E:Hid (zB w w.drew):=(Below.refl _ w).drew;have n:Hid (w.drew.cell? ⟨x,0,none⟩=some (.bool false)∧w.drew.cell? ⟨y,0,none⟩=some (.bool false)∧w.drew.cell? ⟨y,1,none⟩=some (.slice h l j)):=⟨R,T,U⟩
 clear hx hy hz u A hm hk;go_enter Tryz.func94,Tryz.ntmps94;go_wp2_with fail;refine wp_region_held_drew (S:=λg=>g.cell? ⟨x,0,none⟩=some (.bool false)∧g.cell? ⟨y,0,none⟩=some (.bool false)∧g.cell? ⟨y,1,none⟩=some (.slice h l j)) (by kernel_rfl) n.o ?_;intro M;refine wpAnyH_take (i:=0) (v:=?v18) rfl (by kernel_rfl) (by kernel_rfl) (by kernel_rfl) zid (Or.inl ⟨by rfl,?y18⟩) (by assumption) ?_
 case y18=>(intro w a;(try dsimp only at a);go_simp;try (with_reducible rfl))
 try simp only[Act.put]
 try simp only[List.setIfInBounds_toArray]
 try simp only[List.set_cons_succ]
 try simp only[List.set_cons_zero]
 refine wpAnyH_take (i:=1) (v:=?v19) rfl (by kernel_rfl) (by kernel_rfl) (by kernel_rfl) zid (Or.inl ⟨by rfl,?y19⟩) (by assumption) ?_
 case y19=>(intro w a;(try dsimp only at a);go_simp;try (with_reducible rfl))
 try simp only[Act.put]
 try simp only[List.setIfInBounds_toArray]
 try simp only[List.set_cons_succ]
 try simp only[List.set_cons_zero]
 refine wpAnyH_take (i:=2) (v:=?v20) rfl (by kernel_rfl) (by kernel_rfl) (by kernel_rfl) zid (Or.inl ⟨by rfl,?y20⟩) (by assumption) ?_
 case y20=>(intro w a;(try dsimp only at a);go_simp;try (with_reducible rfl))
 try simp only[Act.put]
 try simp only[List.setIfInBounds_toArray]
 try simp only[List.set_cons_succ]
 try simp only[List.set_cons_zero]
 refine wpAnyH_take (i:=3) (v:=?v21) rfl (by kernel_rfl) (by kernel_rfl) (by kernel_rfl) zid (Or.inl ⟨by rfl,?y21⟩) (by assumption) ?_
 case y21=>(intro w a;(try dsimp only at a);go_simp;try (with_reducible rfl))
 try simp only[Act.put]
 try simp only[List.setIfInBounds_toArray]
 try simp only[List.set_cons_succ]
 try simp only[List.set_cons_zero]
 refine wpAnyH_take (i:=4) (v:=?v22) rfl (by kernel_rfl) (by kernel_rfl) (by kernel_rfl) zid (Or.inl ⟨by rfl,?y22⟩) (by assumption) ?_
 case y22=>(intro w a;(try dsimp only at a);go_simp;try (with_reducible rfl))
 try simp only[Act.put]
 try simp only[List.setIfInBounds_toArray]
 try simp only[List.set_cons_succ]
 try simp only[List.set_cons_zero]
 refine wpAnyH_take (i:=5) (v:=?v23) rfl (by kernel_rfl) (by kernel_rfl) (by kernel_rfl) zid (Or.inl ⟨by rfl,?y23⟩) (by assumption) ?_
 case y23=>(intro w a;(try dsimp only at a);go_simp;try (with_reducible rfl))
 try simp only[Act.put]
 try simp only[List.setIfInBounds_toArray]
 try simp only[List.set_cons_succ]
 try simp only[List.set_cons_zero]
 refine wpAnyH_take (i:=6) (v:=?v24) rfl (by kernel_rfl) (by kernel_rfl) (by kernel_rfl) zid (Or.inl ⟨by rfl,?y24⟩) (by assumption) ?_
 case y24=>(intro w a;(try dsimp only at a);go_simp;try (with_reducible rfl))
 try simp only[Act.put]
 try simp only[List.setIfInBounds_toArray]
 try simp only[List.set_cons_succ]
 try simp only[List.set_cons_zero]
 refine wpAnyH_take (i:=7) (v:=?v25) rfl (by kernel_rfl) (by kernel_rfl) (by kernel_rfl) zid (Or.inl ⟨by rfl,?y25⟩) (by assumption) ?_
 case y25=>(intro w a;(try dsimp only at a);go_simp;try (with_reducible rfl))
 try simp only[Act.put]
 try simp only[List.setIfInBounds_toArray]
 try simp only[List.set_cons_succ]
 try simp only[List.set_cons_zero]
 refine wpAnyH_take (i:=9) (v:=?v26) rfl (by kernel_rfl) (by kernel_rfl) (by kernel_rfl) zid (Or.inl ⟨by rfl,?y26⟩) (by assumption) ?_
 case y26=>(intro w a;(try dsimp only at a);go_simp;try (with_reducible rfl))
 try simp only[Act.put]
 try simp only[List.setIfInBounds_toArray]
 try simp only[List.set_cons_succ]
 try simp only[List.set_cons_zero]
 refine wpAnyH_take (i:=10) (v:=?v27) rfl (by kernel_rfl) (by kernel_rfl) (by kernel_rfl) zid (Or.inl ⟨by rfl,?y27⟩) (by assumption) ?_
 case y27=>(intro w a;(try dsimp only at a);go_simp;try (with_reducible rfl))
 try simp only[Act.put]
 try simp only[List.setIfInBounds_toArray]
 try simp only[List.set_cons_succ]
 try simp only[List.set_cons_zero]
 refine wpAnyH_take (i:=11) (v:=?v28) rfl (by kernel_rfl) (by kernel_rfl) (by kernel_rfl) zid (Or.inl ⟨by rfl,?y28⟩) (by assumption) ?_
 case y28=>(intro w a;(try dsimp only at a);go_simp;try (with_reducible rfl))
 try simp only[Act.put]
 try simp only[List.setIfInBounds_toArray]
 try simp only[List.set_cons_succ]
 try simp only[List.set_cons_zero]
 refine wpAnyH_take (i:=12) (v:=?v29) rfl (by kernel_rfl) (by kernel_rfl) (by kernel_rfl) zid (Or.inl ⟨by rfl,?y29⟩) (by assumption) ?_
 case y29=>(intro w a;(try dsimp only at a);go_simp;try (with_reducible rfl))
 try simp only[Act.put]
 try simp only[List.setIfInBounds_toArray]
 try simp only[List.set_cons_succ]
 try simp only[List.set_cons_zero]
 refine wpAnyH_take (i:=13) (v:=?v30) rfl (by kernel_rfl) (by kernel_rfl) (by kernel_rfl) zid (Or.inl ⟨by rfl,?y30⟩) (by assumption) ?_
 case y30=>(intro w a;(try dsimp only at a);go_simp;try (with_reducible rfl))
 try simp only[Act.put]
 try simp only[List.setIfInBounds_toArray]
 try simp only[List.set_cons_succ]
 try simp only[List.set_cons_zero]
 refine wpAnyH_take (i:=14) (v:=?v31) rfl (by kernel_rfl) (by kernel_rfl) (by kernel_rfl) zid (Or.inl ⟨by rfl,?y31⟩) (by assumption) ?_
 case y31=>(intro w a;(try dsimp only at a);go_simp;try (with_reducible rfl))
 try simp only[Act.put]
 try simp only[List.setIfInBounds_toArray]
 try simp only[List.set_cons_succ]
 try simp only[List.set_cons_zero]
 refine wpAnyH_take (i:=15) (v:=?v32) rfl (by kernel_rfl) (by kernel_rfl) (by kernel_rfl) zid (Or.inl ⟨by rfl,?y32⟩) (by assumption) ?_
 case y32=>(intro w a;(try dsimp only at a);go_simp;try (with_reducible rfl))
 try simp only[Act.put]
 try simp only[List.setIfInBounds_toArray]
 try simp only[List.set_cons_succ]
 try simp only[List.set_cons_zero]
 refine wpAnyH_take (i:=16) (v:=?v33) rfl (by kernel_rfl) (by kernel_rfl) (by kernel_rfl) zid (Or.inl ⟨by rfl,?y33⟩) (by assumption) ?_
 case y33=>(intro w a;(try dsimp only at a);go_simp;try (with_reducible rfl))
 try simp only[Act.put]
 try simp only[List.setIfInBounds_toArray]
 try simp only[List.set_cons_succ]
 try simp only[List.set_cons_zero]
 refine wpAnyH_ready (rs:=[8]) (by kernel_rfl) (by simp) ?_;refine AllReadyH.cons rfl (λK d=>?_) AllReadyH.nil;go_simp;refine d.o _ _ n.o (λb=>?_);clear d K;refine wpAnyH_ready (rs:=[17]) (by kernel_rfl) (by simp) ?_;refine AllReadyH.cons rfl (λK d=>?_) AllReadyH.nil;go_simp;go_wp2_with fail;refine(J.o _ E.o).mono ?_;rintro e g ⟨O,Q,P,rfl,F,f⟩;have r:=shB E f;have q:Hid (g.cell? ⟨x,0,none⟩=some (.bool false)∧g.cell? ⟨y,0,none⟩=some (.bool false)∧g.cell? ⟨y,1,none⟩=some (.slice h l j)):=⟨cell_bel f n.o.1,cell_bel f n.o.2.1,cell_bel f n.o.2.2⟩
 have L:Hid (Ru g O Q P (dig (m+k))):=F;clear f F
 try go_simp
 refine d.o _ _ q.o (λb=>?_);clear d K;refine wpAnyH_take (i:=18) (v:=?v34) rfl (by kernel_rfl) (by kernel_rfl) (by kernel_rfl) zid (Or.inl ⟨by rfl,?y34⟩) (by assumption) ?_
 case y34=>(intro w a;(try dsimp only at a);go_simp;try (with_reducible rfl))
 try simp only[Act.put]
 try simp only[List.setIfInBounds_toArray]
 try simp only[List.set_cons_succ]
 try simp only[List.set_cons_zero]
 refine wpAnyH_take (i:=19) (v:=?v35) rfl (by kernel_rfl) (by kernel_rfl) (by kernel_rfl) zid (Or.inl ⟨by rfl,?y35⟩) (by assumption) ?_
 case y35=>(intro w a;(try dsimp only at a);go_simp;try (with_reducible rfl))
 try simp only[Act.put]
 try simp only[List.setIfInBounds_toArray]
 try simp only[List.set_cons_succ]
 try simp only[List.set_cons_zero]
 refine wpAnyH_ready (rs:=[20]) (by kernel_rfl) (by simp) ?_;refine AllReadyH.cons rfl (λK d=>?_) AllReadyH.nil;go_simp;go_wp2_with fail;refine(give_any z _ _ _ _ (C.o.below r.o)).mono ?_;rintro e p ⟨rfl,s,c⟩;have D:Hid (p.cell? ⟨x,0,none⟩=some (.bool false)∧p.cell? ⟨y,0,none⟩=some (.bool false)∧p.cell? ⟨y,1,none⟩=some (.slice h l j)):=⟨neg_ex c s q.o.1 rfl,cell_ex c q.o.2.1 hyz,cell_ex c q.o.2.2 hyz⟩
 have B:Hid (Bg p z (m+k)∧Ex w p z):=⟨⟨_,_,_,s,L.o.ex (C.o.below r.o) c⟩,Ex.of r.o c⟩
 clear s c
 try go_simp
 refine d.o _ _ D.o (λb=>?_);clear d K;refine wpAnyH_ready (rs:=[21]) (by kernel_rfl) (by simp) ?_;refine AllReadyH.cons rfl (λK d=>?_) AllReadyH.nil;go_simp;refine d.o _ _ D.o (λb=>?_);clear d K;refine wpAnyH_done (by kernel_rfl) ?_ _;go_wp2_with fail;go_ret;exact⟨rfl,B.o.1,B.o.2⟩
theorem len100{m:Nat}(h:m<4294967296^8):(dig m).length≤100:=by
 have:=dig_len 8 h;omega
theorem nf_lt{f:Nat→Nat}:∀{n:Nat},(∀i,i<n→f i<4294967296)→nf f n<4294967296^n
 |0,_=>by simp[nf]
 |n+1,h=>by
  have h1:=nf_lt (f:=f) (n:=n) λi b=>h i (by omega);have a:=h n (by omega);rw[nf,Nat.pow_succ];have:4294967296^n*(f n+1)≤4294967296^n*4294967296:=Nat.mul_le_mul_left _ (by omega);rw[Nat.mul_add] at this;omega
theorem dig_nf(m:Nat):nf (λi=>(dig m).getD i 0) (dig m).length=m:=by rw[← nv_nf,nv_dig]
theorem dig_word(m i:Nat):(dig m).getD i 0<4294967296:=by
 by_cases a:i<(dig m).length
 ·exact dig_lt m _ (by simp[List.getD,List.getElem?_eq_getElem a])
 ·simp[List.getD,List.getElem?_eq_none (show (dig m).length≤i by omega)]
theorem dig_low(m:Nat):m<4294967296^(dig m).length:=by
 have:=nf_lt (f:=λi=>(dig m).getD i 0) (n:=(dig m).length) λi _=>dig_word m i
 rwa [dig_nf] at this
theorem dig_high:∀(m k:Nat),(dig m).length=k+1→4294967296^k≤m:=by
 intro m k
 induction k generalizing m with
 |zero=>
  intro h;have:m≠0:=by intro e;rw[e,dig_zero] at h;simp at h
  simp;omega
 |succ k ih=>
  intro h;have a:m≠0:=by intro e;rw[e,dig_zero] at h;simp at h
  rw[dig_pos a] at h;have:=ih (m/4294967296) (by simpa using h);rw[Nat.pow_succ];have b:=Nat.mul_le_mul_right 4294967296 this;omega
theorem len_less{m k:Nat}(h:(dig m).length<(dig k).length):m<k:=by
 have a:=dig_low m;have b:=dig_high k ((dig k).length-1) (by omega);have c:4294967296^(dig m).length≤4294967296^((dig k).length-1):=Nat.pow_le_pow_right (by decide) (by omega);omega
end words
end Go.Proofs.YtoepgdhiepedeaaGreatDoor
