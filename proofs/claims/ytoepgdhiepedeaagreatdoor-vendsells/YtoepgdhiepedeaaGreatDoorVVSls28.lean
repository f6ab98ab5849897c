import Derived.Test.YtoepgdhiepedeaaGreatDoorVVSls20
import Derived.Test.YtoepgdhiepedeaaGreatDoorVVSls23
import Derived.Test.YtoepgdhiepedeaaGreatDoorVVSls25
import Derived.Test.YtoepgdhiepedeaaGreatDoorVVSls27
set_option linter.unusedVariables false
set_option linter.unusedSimpArgs false
set_option maxHeartbeats 4000000
set_option maxRecDepth 100000
namespace Go.Proofs.YtoepgdhiepedeaaGreatDoor
namespace disk
open Go.RowKit cell
def RepPost(w:World)(c:List Int)(e:Ending)(w':World):Prop:=
 ∃V sl out x f,e=.returned (.tuple #[V,zI x,zI f])∧Lr 25 w' w.heap.size V sl∧Recs w' V.ownBlock sl out∧RepIs c out x f∧zB w w'
theorem rec_at{c:List Int}{p m x:Nat}(hm:(c.getD p 0).toNat=m)(hx:x<m):(recAt c p).getD x 0=c.getD (p+1+x) 0:=by
 unfold recAt;rw[hm];simp[List.getD,List.getElem?_drop,hx]
theorem rec_len{c:List Int}{p m:Nat}(hm:(c.getD p 0).toNat=m)(hf:p+m<c.length):(recAt c p).length=m:=by
 unfold recAt;rw[hm,List.length_take,List.length_drop];omega
end disk
namespace book
open Go.RowKit
open acc (Ac Tm Bi APost BPost OweIs SellIs GrantIs RekeyIs)
theorem rhap2(a:Ac)(sol:List So)(dp:Option Addr)(dn dc:Nat)(sp:Option Addr)(sn sc:Nat)(t:Tm)(pt:Option Addr)(lt ct:Nat)(v:Ev)(base:Nat)(w:World)(hx:Has w base (cuA a dp dn dc sp sn sc) ⟨a,sol⟩)(ht:tar.RowD w pt lt t.ts)(htl:lt≤maxLen)(hbase:base≤w.heap.size)(hkd:v.kd=2)(hsol:sol.length≤2000000):
  Calls Tryz.prog 85 #[.agg #[.slice pt lt ct,zI t.ff,zI t.fb,zI t.db,zI t.al],.agg #[zI a.me,zI a.rv,zI a.nx,zI a.mo,zI a.bo,zI a.fr,.slice dp dn dc,.slice sp sn sc],.agg #[zI v.kd,zI v.me,zI v.mo,zI v.id,zI v.te,zI v.de,zI v.fe,zI v.pr,zI v.ch,zI v.un,zI v.tg,zI v.ow,zI v.bp]] w λe w'=>HapPost w base t (cuA a dp dn dc sp sn sc) ⟨a,sol⟩ v e w':=by
 have n2:(v.kd==2)=true:=by rw[hkd];rfl
 have n3:(v.kd==3)=false:=by rw[hkd];rfl
 have n4:(v.kd==4)=false:=by rw[hkd];rfl
 have n5:(v.kd==5)=false:=by rw[hkd];rfl
 have au:=zh hkd;have aE:Hid (v.kd≠5):=by show v.kd≠5;rw[hkd];decide
 clear hkd;have bM:Hid (zB w w):=zb;have HH:=zh hx;have aO:=zh hbase;have ab:Hid (∀k,(Value.slice sp sn sc).ownBlock=some k→k<w.heap.size):=λk hk=>(World.ownsRow.lt hx.so k hk).2;have bg:Hid (∀W,zB w W→zC 22 #[.agg #[zI a.me,zI a.rv,zI a.nx,zI a.mo,zI a.bo,zI a.fr,.slice dp dn dc],.agg #[.slice pt lt ct,zI t.ff,zI t.fb,zI t.db,zI t.al],zI v.te,zI v.mo] W λe w'=>BPost W (SellIs a t v.te v.mo) e w'):=λW hB=>acc.rsold a dp dn dc t pt lt ct v.te v.mo W (hx.ds.came.below hB).row hx.ds.came.most (ht.below hB) htl;clear hx ht htl hbase;obtain⟨W0,bx,bJ,Qx,Qv,Qr,b9,b6⟩:=sh4 w #[.slice pt lt ct,zI t.ff,zI t.fb,zI t.db,zI t.al] 24 #[zI a.me,zI a.rv,zI a.nx,zI a.mo,zI a.bo,zI a.fr,.slice dp dn dc,.slice sp sn sc] 71 #[zI v.kd,zI v.me,zI v.mo,zI v.id,zI v.te,zI v.de,zI v.fe,zI v.pr,zI v.ch,zI v.un,zI v.tg,zI v.ow,zI v.bp] 44 #[zI 0,zI 0,zI 0,zI 0,zI 0,zI 0,zS,zS] 71;go_enter Tryz.func85,Tryz.ntmps85;go_upto_region 1 with fail
 rw[bx.o];have c:=zh b6;clear b6;have F:=zy0 Qx;have G:=zy1 Qx;have H:=zy2 Qx;have I:=zy3 Qx;have J:=zy4 Qx;have L:=zy5 Qx;have M:=zy6 Qx;have N:=zy7 Qx;have p:=zy0 Qv;have r:=zy1 Qv;have s:=zy2 Qv;have x:=zy3 Qv;have z:=zy4 Qv;have A:=zy5 Qv;have B:=zy6 Qv;have C:=zy7 Qv;have D:=zy8 Qv;have E:=zy9 Qv;have d:=zy10 Qv;have i:=zy11 Qv;have j:=zy12 Qv;obtain⟨W1,bw,bI,Qa,Qb,aP,b7⟩:=sh3 W0 #[zI v.id,zI 0,zI v.un,zI v.tg,zI a.rv] 212 #[zI 0,zI 0,zI 0,zI 0,zI 0,zI 0,zS] 55 #[zI 0,zI 0,zI 0,zI 0,zI 0,zI 0,zI 0] 33;obtain⟨a7,X,n,bE⟩:=zn4 aP.o bJ Qx Qv Qr;have aN:=shB b9 aP.o;have aw:=zh b7;clear b7;go_upto_region 8 with fail
 rw[bw.o];clear F G H I J L M N p r s x z A B C D E d i j;generalize W0.heap.size=gs at *;have P:=zy0 a7;have Q:=zy1 a7;have R:=zy2 a7;have T:=zy3 a7;have V:=zy4 a7;have F:=zy0 X;have G:=zy1 X;have H:=zy2 X;have I:=zy3 X;have J:=zy4 X;have L:=zy5 X;have M:=zy6 X;have N:=zy7 X;have p:=zy0 n;have r:=zy1 n;have s:=zy2 n;have x:=zy3 n;have z:=zy4 n;have A:=zy5 n;have B:=zy6 n;have C:=zy7 n;have D:=zy8 n;have E:=zy9 n;have d:=zy10 n;have i:=zy11 n;have j:=zy12 n;have bf:=zh (bg.o W1 aN.o);go_wp2_with fail;refine bf.o.mono ?_;rintro e w2 ⟨b,l,pb,Z,cb,f,rfl,hi,hf,ac⟩;have HI:=zh hi;obtain⟨aY,b2,b0,bF,aW⟩:=zn5 ac a7 X n bE bI;obtain⟨bz,bC⟩:=zn2 ac Qa Qb;have ba:=shB aN ac;have aC:=zh hf;have bt:=zh ac.size;clear ac hf hi P Q R T V F G H I J L M N p r s x z A B C D E d i j;unfold acc.Ac.v acc.Ac.cs acc.Bi.v;obtain⟨P,Q,R,T,V⟩:=scl5 aY;obtain⟨F,G,H,I,J,L,M,N⟩:=scl8 b2;obtain⟨p,r,s,x,z,A,B,C,D,E,d,i,j⟩:=scl13 b0;obtain⟨a1,a2,a3,a4,a5⟩:=scl5 aW;go_wp2_with (first|(refine zql rfl rfl rfl rfl zqu55 (by simp[Value.oneCell']) bz rfl ?_)|fail)
 intro w3 m;have aZ:=zyk m aY (by have:=c.o;omega);have b3:=zyk m b2 (by have:=c.o;omega);have b1:=zyk m b0 (by have:=c.o;omega);have bG:=zyk m bF (by have:=c.o;omega);have aX:=zyk m aW (by have:=c.o;omega);have bA:=zyb m;have bD:=zyk m bC (by have:=c.o;omega);have be:Hid (zB w w3):=m.bel _ _ (by have:=c.o;omega) ba.o;have aD:Hid (deb.Fresh w3 W1.heap.size pb Z cb b.ds):=⟨acc_upd aC.o.came m (λhn y hy q=>by have h1:=aC.o.new hn y hy;have h2:=aw.o;omega),aC.o.new⟩
 have bu:Hid (w2.heap.size=w3.heap.size):=m.size.symm;clear m P Q R T V F G H I J L M N p r s x z A B C D E d i j a1 a2 a3 a4 a5;obtain⟨P,Q,R,T,V⟩:=scl5 aZ;obtain⟨F,G,H,I,J,L,M,N⟩:=scl8 b3;obtain⟨p,r,s,x,z,A,B,C,D,E,d,i,j⟩:=scl13 b1;obtain⟨a1,a2,a3,a4,a5⟩:=scl5 aX;go_wp2_with (first|(refine zql rfl rfl rfl rfl zqu33 (by simp[Value.oneCell']) bD rfl ?_)|fail)
 intro w4 m;have aL:=zyk m aZ (by have:=c.o;omega);have ax:=zyk m b3 (by have:=c.o;omega);have aM:=zyk m b1 (by have:=c.o;omega);have bH:=zyk m bG (by have:=c.o;omega);have aK:=zyk m aX (by have:=c.o;omega);have bB:=zyk m bA (by have:=c.o;omega);have aJ:=zyb m;have az:Hid (zB w w4):=m.bel _ _ (by have:=c.o;omega) be.o;have bh:Hid (deb.Fresh w4 W1.heap.size pb Z cb b.ds):=⟨acc_upd aD.o.came m (λhn y hy q=>by have h1:=aD.o.new hn y hy;have h2:=aw.o;omega),aD.o.new⟩
 have bv:Hid (w3.heap.size=w4.heap.size):=m.size.symm;clear m P Q R T V F G H I J L M N p r s x z A B C D E d i j a1 a2 a3 a4 a5;have a6:Hid (w.heap.size≤W1.heap.size):=by have h1:=aw.o;have h2:=c.o;show _≤_;omega
 have br:Hid (W1.heap.size≤w4.heap.size):=by show _≤_;have:=bt.o;have:=bu.o;have:=bv.o;omega
 by_cases a8:f=0
 ·have aR:Hid (f=0):=a8;have nf:(f != 0)=false:=by simpa using a8
  clear a8;by_cases a9:l=billOf v
  ·have aF:Hid (l=billOf v):=a9;have qe:∀wz:World,(Op.equalIn 10000 33 (.agg #[zI l.id,zI l.te,zI l.de,zI l.fe,zI l.pr,zI l.ch,zI l.un]) (.agg #[zI v.id,zI v.te,zI v.de,zI v.fe,zI v.pr,zI v.ch,zI v.un])).run Tryz.prog wz=.ok true wz:=λwz=>by rw[a9,show (10000:Nat)=9998+2 from rfl,eqBi];unfold billOf;simp
   clear a9;obtain⟨P,Q,R,T,V⟩:=scl5 aL;obtain⟨F,G,H,I,J,L,M,N⟩:=scl8 ax;obtain⟨p,r,s,x,z,A,B,C,D,E,d,i,j⟩:=scl13 aM;obtain⟨af,ag,ah,ai,aj,ak,am⟩:=scl7 aJ;go_upto_region 20 with fail
   clear P Q R T V F G H I J L M N p r s x z A B C D E d i j af ag ah ai aj ak am;have aH:Hid ((λu:World=>Blk u (gs+1) #[zI b.me,zI b.rv,zI b.nx,zI b.mo,zI b.bo,zI b.fr,.slice pb Z cb] 55∧Blk u (w.heap.size+1) #[zI a.me,zI a.rv,zI a.nx,zI a.mo,zI a.bo,zI a.fr,.slice dp dn dc,.slice sp sn sc] 71∧Blk u gs #[zI v.id,zI 0,zI v.un,zI v.tg,zI a.rv] 212) w4.drew):=⟨bB.o,ax.o,aK.o⟩
   refine wp_region_held_drew (S:=(λu:World=>Blk u (gs+1) #[zI b.me,zI b.rv,zI b.nx,zI b.mo,zI b.bo,zI b.fr,.slice pb Z cb] 55∧Blk u (w.heap.size+1) #[zI a.me,zI a.rv,zI a.nx,zI a.mo,zI a.bo,zI a.fr,.slice dp dn dc,.slice sp sn sc] 71∧Blk u gs #[zI v.id,zI 0,zI v.un,zI v.tg,zI a.rv] 212)) (by kernel_rfl) aH.o (λY=>?_);refine zu' 0 (.agg #[zI b.me,zI b.rv,zI b.nx,zI b.mo,zI b.bo,zI b.fr,.slice pb Z cb]) rfl rfl (yieldsIf_whole (by rfl) 55 _ rfl (gs+1) rfl 55 #[zI b.me,zI b.rv,zI b.nx,zI b.mo,zI b.bo,zI b.fr,.slice pb Z cb] _ (λu hu=>hu.1) Tryz.underlying55 rfl (by kernel_rfl)) ?_;refine zt' 1 (.pointer (some ⟨w.heap.size+1,7,none⟩)) ?_;refine zu' 2 (.slice sp sn sc) rfl rfl (Or.inl ⟨by rfl,λv hv=>by have h2:=hv.2.1.cell 7;clear hv;go_simp⟩) ?_;refine zu' 3 (.agg #[zI v.id,zI 0,zI v.un,zI v.tg,zI a.rv]) rfl rfl (yieldsIf_whole (by rfl) 212 _ rfl (gs) rfl 212 #[zI v.id,zI 0,zI v.un,zI v.tg,zI a.rv] _ (λu hu=>hu.2.2) Tryz.underlying212 rfl (by kernel_rfl)) ?_;have an:Hid (Blk w4.drew (gs+1) #[zI b.me,zI b.rv,zI b.nx,zI b.mo,zI b.bo,zI b.fr,.slice pb Z cb] 55∧Blk w4.drew (w.heap.size+1) #[zI a.me,zI a.rv,zI a.nx,zI a.mo,zI a.bo,zI a.fr,.slice dp dn dc,.slice sp sn sc] 71∧Blk w4.drew gs #[zI v.id,zI 0,zI v.un,zI v.tg,zI a.rv] 212):=aH.o;have aT:Hid (Blk w4.drew (w.heap.size+1+1+1) #[zI 0,zI 0,zI 0,zI 0,zI 0,zI 0,zS,zS] 71):=bH.o;have aa:Hid (zB w w4.drew):=az.o.drew;have aQ:Hid (deb.Fresh w4.drew W1.heap.size pb Z cb b.ds):=drew_fresh bh.o;have aV:Hid (W1.heap.size≤w4.drew.heap.size):=br.o;have aS:Hid (Lo w4.drew base (.slice sp sn sc) sol):=HH.o.so.next aa.o;clear aH;generalize w4.drew=U at *;refine zo 4 λK hK=>?_;rw[if_pos (by rfl)];have ap:Hid (Blk (U.alloc (.cells #[zI v.id,zI 0,zI v.un,zI v.tg,zI a.rv] 212)) (gs+1) #[zI b.me,zI b.rv,zI b.nx,zI b.mo,zI b.bo,zI b.fr,.slice pb Z cb] 55∧Blk (U.alloc (.cells #[zI v.id,zI 0,zI v.un,zI v.tg,zI a.rv] 212)) (w.heap.size+1) #[zI a.me,zI a.rv,zI a.nx,zI a.mo,zI a.bo,zI a.fr,.slice dp dn dc,.slice sp sn sc] 71∧Blk (U.alloc (.cells #[zI v.id,zI 0,zI v.un,zI v.tg,zI a.rv] 212)) gs #[zI v.id,zI 0,zI v.un,zI v.tg,zI a.rv] 212):=⟨an.o.1.alloc _,an.o.2.1.alloc _,an.o.2.2.alloc _⟩
   have aU:=zya aT (.cells #[zI v.id,zI 0,zI v.un,zI v.tg,zI a.rv] 212);have aA:=zyf aa (.cells #[zI v.id,zI 0,zI v.un,zI v.tg,zI a.rv] 212);have aq:Hid (deb.Fresh (U.alloc (.cells #[zI v.id,zI 0,zI v.un,zI v.tg,zI a.rv] 212)) W1.heap.size pb Z cb b.ds):=aQ.o.below (zb.alloc zc _);have bl:Hid (Lo (U.alloc (.cells #[zI v.id,zI 0,zI v.un,zI v.tg,zI a.rv] 212)) base (.slice sp sn sc) sol):=aS.o.alloc _;have bm:=zye U #[zI v.id,zI 0,zI v.un,zI v.tg,zI a.rv] 212;have bN:Hid (W1.heap.size≤(U.alloc (.cells #[zI v.id,zI 0,zI v.un,zI v.tg,zI a.rv] 212)).heap.size):=cell.alloc_le aV.o _;refine wp_runOp (v:=.slice (some ⟨U.heap.size,0,none⟩) 1 1) (w':=(U.alloc (.cells #[zI v.id,zI 0,zI v.un,zI v.tg,zI a.rv] 212))) 100 rfl (by clear hK;go_simp) ?_;refine hK.o _ _ ap.o (λY=>?_);clear hK an aT aa aQ aS aV;simp only[Act.put,zq];generalize U.heap.size=gn at *;generalize U.alloc _=U2 at *;refine zo 5 λK hK=>?_;rw[if_pos (by rfl)];have bq:Hid (w.heap.size+1+1+1<U2.heap.size):=aU.o.lt;refine step_sold 101 rfl _ _ rfl base gn _ sol ⟨v.id,0,v.un,v.tg,a.rv⟩ rfl rfl bl.o bm.o hsol (Nat.le_trans aO.o aA.o.size) ?_;intro v3 w9 h3 ay b5;obtain⟨p3,c3,rfl,_,_,_⟩:=h3.row;have ae:∀g,w.heap.size≤g→some g≠(Value.slice sp sn sc).ownBlock:=λg hg q=>by have:=ab.o g q.symm;omega
   have ad:∀g cs ty,w.heap.size≤g→Blk U2 g cs ty→Blk w9 g cs ty:=λg cs ty hg hb=>by show w9.heap[g]?=_;rw[ay.block g hb.lt (ae g hg)];exact hb
   have ao:Hid (Blk w9 (gs+1) #[zI b.me,zI b.rv,zI b.nx,zI b.mo,zI b.bo,zI b.fr,.slice pb Z cb] 55∧Blk w9 (w.heap.size+1) #[zI a.me,zI a.rv,zI a.nx,zI a.mo,zI a.bo,zI a.fr,.slice dp dn dc,.slice sp sn sc] 71∧Blk w9 gs #[zI v.id,zI 0,zI v.un,zI v.tg,zI a.rv] 212):=⟨ad _ _ _ (by have:=c.o;omega) ap.o.1,ad _ _ _ (by omega) ap.o.2.1,ad _ _ _ (by have:=c.o;omega) ap.o.2.2⟩
   have bn:Hid (Blk w9 (w.heap.size+1+1+1) #[zI 0,zI 0,zI 0,zI 0,zI 0,zI 0,zS,zS] 71):=ad _ _ _ (by omega) aU.o;have bj:Hid (w.grownBy w9 (Value.slice sp sn sc).ownBlock):=(grown_of aA.o _).trans ay;have bi:Hid (tar.Came w9 pb Z cb b.ds):=came_grown aq.o.came ay (λhn y hy=>ae _ (Nat.le_trans a6.o (aq.o.new hn y hy)));have ar:Hid (0<Z→∀y,pb=some y→W1.heap.size≤y.block∧y.block<U2.heap.size):=λhn y hy=>⟨aq.o.new hn y hy,by obtain⟨bb,oo,e,bL,_⟩:=aq.o.came.row.at hn;rw[hy] at e;rw[Option.some.inj e];exact bL⟩;have bk:=zh h3;have aG:=zh b5;have bs:=zh aA.o.size;refine hK.o _ _ ao.o (λY=>?_);clear hK h3 ay b5 ae ad;simp only[Act.put,zq];generalize (sol++[(⟨v.id,0,v.un,v.tg,a.rv⟩:So)]).length=n3 at *;refine zt' 6 (.agg #[zI b.me,zI b.rv,zI b.nx,zI b.mo,zI b.bo,zI b.fr,.slice pb Z cb,.slice p3 n3 c3]) ?_;refine zo 7 λK hK=>?_;rw[if_pos (by rfl)];refine wp_letOp 71 _ _ rfl (w.heap.size+1+1+1) rfl #[zI b.me,zI b.rv,zI b.nx,zI b.mo,zI b.bo,zI b.fr,.slice pb Z cb,.slice p3 n3 c3] rfl (by kernel_rfl) (by simp[Value.oneCell']) #[zI 0,zI 0,zI 0,zI 0,zI 0,zI 0,zS,zS] 71 bn.o rfl rfl ?_;intro WF m;have O:=zyb m;have aI:=zh m;have b8:Hid (Blk WF (gs+1) #[zI b.me,zI b.rv,zI b.nx,zI b.mo,zI b.bo,zI b.fr,.slice pb Z cb] 55∧Blk WF (w.heap.size+1) #[zI a.me,zI a.rv,zI a.nx,zI a.mo,zI a.bo,zI a.fr,.slice dp dn dc,.slice sp sn sc] 71∧Blk WF gs #[zI v.id,zI 0,zI v.un,zI v.tg,zI a.rv] 212):=⟨m.keep ao.o.1 (by have:=c.o;omega),m.keep ao.o.2.1 (by omega),m.keep ao.o.2.2 (by have:=c.o;omega)⟩
   refine hK.o _ _ b8.o (λY=>?_);clear hK m;refine zt' 8 (zI 0) ?_;refine wpAnyH_done (by kernel_rfl) ?_ _;clear Y
   have a0:Hid (HapPost w base t (cuA a dp dn dc sp sn sc) ⟨a,sol⟩ v (.returned (.tuple #[.agg #[zI b.me,zI b.rv,zI b.nx,zI b.mo,zI b.bo,zI b.fr,.slice pb Z cb,.slice p3 n3 c3],zI 0])) WF):=by
    have b4:=grown_upd bj.o aI.o (by omega);have bK:soldOf ⟨a,sol⟩ v=⟨v.id,0,v.un,v.tg,a.rv⟩:=by unfold soldOf;rw[if_neg (by rw[au.o];decide)]
    refine⟨cuA b pb Z cb p3 n3 c3,⟨b,sol++[soldOf ⟨a,sol⟩ v]⟩,0,rfl,.inr ⟨aE.o,b,l,f,.inl ⟨au.o,HI.o⟩,.inr (.inr ⟨aR.o,aF.o,rfl,rfl⟩)⟩,λ_=>?_,b4⟩;rw[bK];refine⟨b4,⟨cuA_num _ _ _ _ _ _ _,⟨acc_upd bi.o aI.o (λhn y hy q=>by have h1:=(ar.o hn y hy).1;have h2:=aw.o;have h3:=c.o;omega),λhn y hy=>by have h1:=(ar.o hn y hy).1;have h2:=a6.o;have h3:=aO.o;omega⟩,lo_upd bk.o aI.o (λg hg q=>?_)⟩,λg hg=>?_,λhn y hy=>Nat.le_trans a6.o (ar.o hn y hy).1,λg hg hn y hy q=>?_⟩
    ·have h0:(Value.slice p3 n3 c3).ownBlock=some g:=hg;rcases aG.o with e|e
     ·rw[e] at h0;have:=ab.o g h0;omega
     ·rw[e] at h0;have h1:=Option.some.inj h0;have h2:=bq.o;omega
    ·rcases aG.o with e|e
     ·exact .inl (e.symm.trans hg)
     ·refine .inr ?_;have h0:(Value.slice p3 n3 c3).ownBlock=some g:=hg;rw[e] at h0;have h1:=Option.some.inj h0;have h2:=bs.o;omega
    ·have h0:(Value.slice p3 n3 c3).ownBlock=some g:=hg;have h1:=ar.o hn y hy;rcases aG.o with e|e
     ·rw[e] at h0;have h2:=ab.o g h0;have h3:=a6.o;omega
     ·rw[e] at h0;have h2:=Option.some.inj h0;omega
   go_wp2_with fail;exact zr (.tuple #[.agg #[zI b.me,zI b.rv,zI b.nx,zI b.mo,zI b.bo,zI b.fr,.slice pb Z cb,.slice p3 n3 c3],zI 0]) (by simp[results,Tryz.results85,zy0 O,zy1 O,zy2 O,zy3 O,zy4 O,zy5 O,zy6 O,zy7 O,go_sem]) a0.o
  ·have aF:=zh a9;have qe:∀wz:World,(Op.equalIn 10000 33 (.agg #[zI l.id,zI l.te,zI l.de,zI l.fe,zI l.pr,zI l.ch,zI l.un]) (.agg #[zI v.id,zI v.te,zI v.de,zI v.fe,zI v.pr,zI v.ch,zI v.un])).run Tryz.prog wz=.ok false wz:=λwz=>by rw[show (10000:Nat)=9998+2 from rfl,eqBi];exact congrArg (λq=>Result.ok q wz) (decide_eq_false (bill_ne a9))
   clear a9;have av:Hid (¬ (8:Int)=0):=by show ¬ (8:Int)=0;decide
   obtain⟨P,Q,R,T,V⟩:=scl5 aL;obtain⟨F,G,H,I,J,L,M,N⟩:=scl8 ax;obtain⟨p,r,s,x,z,A,B,C,D,E,d,i,j⟩:=scl13 aM;obtain⟨a1,a2,a3,a4,a5⟩:=scl5 aK;obtain⟨af,ag,ah,ai,aj,ak,am⟩:=scl7 aJ;go_wp2_with refine zs ?_;intro WF m;have O:=zyb m;have aB:=zk m az;clear m P Q R T V F G H I J L M N p r s x z A B C D E d i j a1 a2 a3 a4 a5 af ag ah ai aj ak am;have a0:Hid (HapPost w base t (cuA a dp dn dc sp sn sc) ⟨a,sol⟩ v (.returned (.tuple #[.agg #[zI 0,zI 0,zI 0,zI 0,zI 0,zI 0,zS,zS],zI 8])) WF):=⟨cu0,cm0,8,rfl,.inr ⟨aE.o,b,l,f,.inl ⟨au.o,HI.o⟩,.inr (.inl ⟨aR.o,aF.o,rfl⟩)⟩,λh=>absurd h av.o,grown_of aB.o _⟩
   go_wp2_with fail;exact zr (.tuple #[.agg #[zI 0,zI 0,zI 0,zI 0,zI 0,zI 0,zS,zS],zI 8]) (by simp[results,Tryz.results85,scl8 O,go_sem]) a0.o
 ·have av:=zh a8;have nf:(f != 0)=true:=by simpa using a8
  clear a8;obtain⟨P,Q,R,T,V⟩:=scl5 aL;obtain⟨F,G,H,I,J,L,M,N⟩:=scl8 ax;obtain⟨p,r,s,x,z,A,B,C,D,E,d,i,j⟩:=scl13 aM;obtain⟨a1,a2,a3,a4,a5⟩:=scl5 aK;obtain⟨af,ag,ah,ai,aj,ak,am⟩:=scl7 aJ;go_wp2_with refine zs ?_;intro WF m;have O:=zyb m;have aB:=zk m az;clear m P Q R T V F G H I J L M N p r s x z A B C D E d i j a1 a2 a3 a4 a5 af ag ah ai aj ak am;have a0:Hid (HapPost w base t (cuA a dp dn dc sp sn sc) ⟨a,sol⟩ v (.returned (.tuple #[.agg #[zI 0,zI 0,zI 0,zI 0,zI 0,zI 0,zS,zS],zI f])) WF):=⟨cu0,cm0,f,rfl,.inr ⟨aE.o,b,l,f,.inl ⟨au.o,HI.o⟩,.inl ⟨av.o,rfl⟩⟩,λh=>absurd h av.o,grown_of aB.o _⟩
  go_wp2_with fail;exact zr (.tuple #[.agg #[zI 0,zI 0,zI 0,zI 0,zI 0,zI 0,zS,zS],zI f]) (by simp[results,Tryz.results85,scl8 O,go_sem]) a0.o
theorem rhap(a:Ac)(sol:List So)(dp:Option Addr)(dn dc:Nat)(sp:Option Addr)(sn sc:Nat)(t:Tm)(pt:Option Addr)(lt ct:Nat)(v:Ev)(base:Nat)(w:World)(hx:Has w base (cuA a dp dn dc sp sn sc) ⟨a,sol⟩)(ht:tar.RowD w pt lt t.ts)(htl:lt≤maxLen)(hbase:base≤w.heap.size)(hkd:v.kd=2∨v.kd=3∨v.kd=4∨v.kd=5)(hsol:sol.length≤2000000)(hrv:0≤a.rv∧a.rv≤15):
  Calls Tryz.prog 85 #[.agg #[.slice pt lt ct,zI t.ff,zI t.fb,zI t.db,zI t.al],.agg #[zI a.me,zI a.rv,zI a.nx,zI a.mo,zI a.bo,zI a.fr,.slice dp dn dc,.slice sp sn sc],.agg #[zI v.kd,zI v.me,zI v.mo,zI v.id,zI v.te,zI v.de,zI v.fe,zI v.pr,zI v.ch,zI v.un,zI v.tg,zI v.ow,zI v.bp]] w λe w'=>HapPost w base t (cuA a dp dn dc sp sn sc) ⟨a,sol⟩ v e w':=by
 rcases hkd with h|h|h|h
 ·exact rhap2 a sol dp dn dc sp sn sc t pt lt ct v base w hx ht htl hbase h hsol
 ·exact rhap3 a sol dp dn dc sp sn sc t pt lt ct v base w hx ht htl hbase h hsol
 ·exact rhap4 a sol dp dn dc sp sn sc t pt lt ct v base w hx ht htl hbase h hsol hrv
 ·exact rhap5 a sol dp dn dc sp sn sc t pt lt ct v base w hx ht htl hbase h
end book
namespace token
open words
open Go.RowKit
theorem bits_wn(a b c lo n V:Nat)(w:World)(h:WN a b c V)(n0:1≤n)(n1:n≤64)(hl:lo+n≤96):
  Calls Tryz.prog 112 #[.agg #[.int .u32 (a:Int),.int .u32 (b:Int),.int .u32 (c:Int)],zI (lo:Int),zI (n:Int)] w λe w'=>e=.returned (.tuple #[.int .u64 (V/2^lo%2^n:Nat),zI 0])∧zB w w':=by
 have:=bits_any a b c lo n w h.a1 h.b1 h.c1 n0 n1 hl
 rwa [bits_num h.a1 h.b1 h.c1 n1,h.val] at this
theorem wrap_i(v:Nat)(h:v<9223372036854775808):IntKind.i64.wrap (v:Int)=(v:Int):=by rw[IntKind.wrap_i64];omega
end token
namespace vnd
open disk (RepIs AppIs)
open book (Ev ev0 EMay evL evOf EncIs DecIs Cm cm0 So so0 BookIs Sees ECame FirstAt NoneAt)
open acc (Ac Tm Bi TCame ACame)
open cell (Wr RowU)
open Go.RowKit
def NoTwo(w:World)(g:Nat):Prop:=∀o x y,w.cell? ⟨g,o,none⟩=some (zI x)→w.cell? ⟨g,o+1,none⟩=some (zI y)→False
variable{v':Array Value}{p:Option Addr}{w W:World}{T':TypeId}{g:Nat}{n:Nat}
theorem shop_odd{w:World}{T:TypeId}{a1 b1:Option Addr}{a2 a3 b2 b3:Nat}{z:Value}(hB:Blk w g #[.slice a1 a2 a3,.slice b1 b2 b3,z] T):NoTwo w g:=by
 intro o x y a b
 match o,a,b with
 |0,a,_=>rw[hB.cell 0] at a;cases a
 |1,a,_=>rw[hB.cell 1] at a;cases a
 |o+2,_,b=>rw[hB.cell (o+2+1)] at b;simp at b
theorem rowC_far{xs:List book.Cu}(h:book.RowC w p n xs)(hg:NoTwo w g)(hU:Upd w W g v' T'):book.RowC W p n xs:=by
 refine⟨h.1,?_⟩;rcases h.2 with c|⟨b,a,rfl,q,d⟩
 ·exact .inl c
 ·rcases Nat.eq_zero_or_pos n with c|c
  ·exact .inl c
  ·have f:b≠g:=λe=>by
    subst e;have k:=d 0 0 c (by decide);have l:=d 0 1 c (by decide);exact hg (a+0*8+0) (xs.getD 0 book.cu0).me (xs.getD 0 book.cu0).rv (by rw[k];rfl) (by rw[show a+0*8+0+1=a+0*8+1 by omega,l];rfl)
   exact .inr ⟨b,a,rfl,by rw[hU.size];exact q,λi j m o=>by rw[hU.cell _ f rfl];exact d i j m o⟩
theorem rowS_far{l:List So}(h:book.RowS w p n l)(hg:NoTwo w g)(hU:Upd w W g v' T'):book.RowS W p n l:=by
 refine⟨h.1,?_⟩;rcases h.2 with c|⟨b,a,rfl,r,d⟩
 ·exact .inl c
 ·rcases Nat.eq_zero_or_pos n with c|c
  ·exact .inl c
  ·have f:b≠g:=λe=>by
    subst e;have k:=d 0 0 c (by decide);have m:=d 0 1 c (by decide);exact hg (a+0*5+0) (l.getD 0 so0).id (l.getD 0 so0).cl (by rw[k];rfl) (by rw[show a+0*5+0+1=a+0*5+1 by omega,m];rfl)
   exact .inr ⟨b,a,rfl,by rw[hU.size];exact r,λi j o q=>by rw[hU.cell _ f rfl];exact d i j o q⟩
theorem came_far{n cap:Nat}{l:List tar.Du}(h:tar.Came w p n cap l)(hg:NoTwo w g)(hU:Upd w W g v' T'):tar.Came W p n cap l:=
 acc.came_upd h hU λa x d e=>by
  obtain⟨b,j,i,k,c⟩:=h.row.at a;rw[i] at d;cases d;have f:=e;subst f;exact hg _ _ _ (c 0 a).1 (c 0 a).2
theorem sees_far{xs:List book.Cu}{bk:List Cm}(h:Sees w p n xs bk)(hg:NoTwo w g)(hU:Upd w W g v' T'):Sees W p n xs bk:=
 ⟨rowC_far h.row hg hU,h.len,h.num,λi a=>came_far (h.ds i a) hg hU,λi a=>rowS_far (h.so i a) hg hU⟩
end vnd
namespace acc
open tar (Du du0 Came RowD Ld PairT)
open Go.RowKit
theorem powe1(B0 g:Nat)(x:Ac)(p:Option Addr)(len cap:Nat)(q:Du)(w:World)(hB0:Blk w B0 #[zI q.a,zI q.b] 42)(hw:Blk w g (wcs x bi0 p len cap) 132)(hl:Ld 42 w (g+1) (.slice p len cap) x.ds)(ha:AMay x):Calls Tryz.prog 190 #[.pointer (some ⟨g,0,none⟩),.pointer (some ⟨B0,0,none⟩)] w λe w'=>WPost w g (Or0 (λy _ f=>OweIs x q y f)) e w':=by
 have d:=zh (powe g x p len cap q w hw hl ha);have i:=zh hB0;clear hw ha hl;go_enter Tryz.func190,Tryz.ntmps190;go_wp2_with refine zw ?_;refine d.o.mono ?_;rintro e l h;have j:=zh h;obtain⟨y,b,k,n,c,f,rfl,_⟩:=h;go_wp2_with fail;go_ret;exact j.o
theorem kowe:KcOwe:=by
 intro w x p len j q Y hq;unfold Ac.v Ac.cs;obtain⟨k,i,F,s,G,n,a9⟩:=sh3 w #[zI x.me,zI x.rv,zI x.nx,zI x.mo,zI x.bo,zI x.fr,.slice p len j] 55 #[zI q.a,zI q.b] 42 #[zI 0,zI 0,zI 0,zI 0,zI 0,zI 0,zS] 55;have r:=zh (Y.ds.below n.o);go_enter Tryz.func182,Tryz.ntmps182;go_upto_region 1 with fail
 rw[i.o];have U:Hid (∀W,zB k W→Blk W (w.heap.size+1) #[zI q.a,zI q.b] 42):=λW hW=>s.o.next hW
 have T:Hid (zC 32 #[.agg #[zI x.me,zI x.rv,zI x.nx,zI x.mo,zI x.bo,zI x.fr,.slice p len j],.func (.func 190) #[] #[.pointer (some ⟨w.heap.size+1,0,none⟩)]] k λe w'=>BPost k (λy _ f=>OweIs x q y f) e w'):=by
  refine pwork 190 #[.pointer (some ⟨w.heap.size+1,0,none⟩)] (λy _ f=>OweIs x q y f) x p len j k r.o (λh=> .inl ⟨h,rfl,rfl⟩) (λ_ _=>by kernel_rfl) ?_;intro hm W g p' A hB hg B V;exact powe1 _ g x p' len A q W (U.o W hB) B V hm
 clear Y;go_wp2_with refine zw ?_;refine T.o.mono ?_;rintro e w1 ⟨b,l,E,D,C,X,rfl,Z,hf,c⟩;obtain⟨I,J,K⟩:=zn3 c F s G;have a3:=zh (r.o.below c);have H:=shB n c;have a2:=c.size;clear c;unfold Ac.v Ac.cs Bi.v;have t:=zh hf;have z:=zh (came_lt t.o.came);have HV:=zh Z;clear hf Z;obtain⟨W4,i,P,M,d,a0⟩:=sh2 w1 #[zI b.me,zI b.rv,zI b.nx,zI b.mo,zI b.bo,zI b.fr,.slice E D C] 55 #[zI l.id,zI l.te,zI l.de,zI l.fe,zI l.pr,zI l.ch,zI l.un] 33;obtain⟨N,O,a4⟩:=zn3 d.o I J K;have u:=zh (t.o.below d.o);have L:=shB H d.o;go_upto_region 2 with fail
 rw[i.o];go_wp2_with (first|refine zs ?_|refine zw ?_)
 intro W5 m;obtain⟨a6,a7,a8,a5⟩:=zk4 m N O P M;have S:=zyb m;have R:Hid (deb.Fresh W5 k.heap.size E D C b.ds):=fresh_updN u.o m (λhn y hy=>by have f1:=u.o.new hn y hy;have f2:=z.o hn y hy;omega);have Q:=zk m L;have a1:=m.size;clear m;go_wp2_with fail;exact zr (.tuple #[.agg #[zI b.me,zI b.rv,zI b.nx,zI b.mo,zI b.bo,zI b.fr,.slice E D C],zI X]) (by simp[results,Tryz.results182,scl7 S,go_sem]) ⟨b,E,D,C,X,rfl,HV.o,R.o.low (by omega),Q.o⟩
end acc
namespace book
open Go.RowKit
theorem of_caught(ge gn ga:Nat)(f0 m0 a0 f:Int)(hf:f≠0)(w:World)(he:Blk w ge #[zI f0] 36)(hn:Blk w gn #[zI m0] 3)(ha:Blk w ga #[zI a0] 3)(h1:gn≠ge)(h2:ga≠ge):
  CallsD Tryz.prog 106 #[.pointer (some ⟨ge,0,none⟩),.pointer (some ⟨gn,0,none⟩),.pointer (some ⟨ga,0,none⟩)] (.panicking (thrown f)) w λe u' w'=>e=.returned (.tuple #[])∧settle u'=.returning∧∃W W2,zB w W∧Upd W W2 ge #[zI f] 36∧Upd W2 w' ga #[zI m0] 3:=by
 refine callsD_of_wpS Tryz.func106 rfl λu cs l=>?_;apply wpS_seq;apply wpS_region;simp only[thrown] at l;simp[wpOpsS,go_sem,recoverD,l,Tryz.ntmps106,Exit.thenS];refine(reason_is f w).mono ?_;rintro e i ⟨rfl,a⟩;have j:=he.next a;have n:=hn.next a;have m:=ha.next a;have p:=j.cell 0;have q:=j.free 0;have g:Upd i (i.setCell ⟨ge,0,none⟩ (zI f)) ge #[zI f] 36:=upd_cells ge _ [zI f] 0 i _ j;simp[go_sem,p,q,Exit.thenS];generalize i.setCell ⟨ge,0,none⟩ (zI f)=W2 at *;have c:=g.blk;have d:=g.keep n h1;have b:=g.keep m h2;have x:=c.cell 0;have y:=d.cell 0;have nf:(f != 0)=true:=by simpa using hf
 change Code.wpS _ _ _ { tmps:=#[.pointer (some ⟨ge,0,none⟩),.pointer (some ⟨gn,0,none⟩),.pointer (some ⟨ga,0,none⟩),refV f,zI f,undef,undef,undef],defers:=[] } _ _;apply wpS_of_wp;have r:=zh b;have t:=zh g;have s:=zh a;clear hf he hn ha j n m p q g c d b a l;go_wp2_with refine zl ?_;intro W3 h;have k:=zh h;clear h;go_wp2_with fail;simp[bodyPostS,results,Tryz.results106,settle];exact⟨i,s.o,W2,t.o,k.o⟩
theorem of_idle(ge gn ga:Nat)(f0:Int)(w:World)(he:Blk w ge #[zI f0] 36):
  CallsD Tryz.prog 106 #[.pointer (some ⟨ge,0,none⟩),.pointer (some ⟨gn,0,none⟩),.pointer (some ⟨ga,0,none⟩)] .returning w λe u' w'=>e=.returned (.tuple #[])∧settle u'=.returning∧∃W,zB w W∧Upd W w' ge #[zI 0] 36:=by
 refine callsD_of_wpS Tryz.func106 rfl λi cs b=>?_;apply wpS_seq;apply wpS_region;simp[wpOpsS,go_sem,recoverD,b,Tryz.ntmps106,Exit.thenS];refine(reason_nil w).mono ?_;rintro e c ⟨rfl,rfl⟩;have d:=he.cell 0;have f:=he.free 0;have a:Upd c (c.setCell ⟨ge,0,none⟩ (zI 0)) ge #[zI 0] 36:=upd_cells ge _ [zI 0] 0 c _ he;simp[go_sem,d,f,Exit.thenS];generalize c.setCell ⟨ge,0,none⟩ (zI 0)=j at *;have k:=zx0 a;change Code.wpS _ _ _ { tmps:=#[.pointer (some ⟨ge,0,none⟩),.pointer (some ⟨gn,0,none⟩),.pointer (some ⟨ga,0,none⟩),.nilIface,zI 0,undef,undef,undef],defers:=[] } _ _;apply wpS_of_wp;have h:=zh a;have g:=zh b;clear he d f a b;go_wp2_with fail;have b:=g.o;have a:=h.o;simp[bodyPostS,results,Tryz.results106,b,settle];exact⟨.returning,(by cases i;simp_all),rfl,c,zb,a⟩
end book
end Go.Proofs.YtoepgdhiepedeaaGreatDoor
