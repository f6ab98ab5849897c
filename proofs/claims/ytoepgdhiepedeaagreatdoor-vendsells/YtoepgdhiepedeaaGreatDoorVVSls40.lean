import Derived.Test.YtoepgdhiepedeaaGreatDoorVVSls39
set_option linter.unusedVariables false
set_option linter.unusedSimpArgs false
set_option maxHeartbeats 4000000
set_option maxRecDepth 100000
namespace Go.Proofs.YtoepgdhiepedeaaGreatDoor
namespace vnd
open disk (RepIs AppIs RepPost AppPost Lr Recs Sli sl0)
open book (Ev ev0 EMay evL evOf EncIs DecIs Cm cm0 So so0 BookIs BookPost Sees ECame RowE FirstAt NoneAt Tells EncPost DecPost)
open acc (Ac Tm Bi SellIs GrantIs RekeyIs OweIs)
open ora (Pr IssueIs)
open cell (Wr RowU RowW Lw Ws)
open rcp (Rc rc0)
open token (Tok fmtL)
open Go.RowKit
theorem rtok2(t:Tm)(pt:Option Addr)(lt ct:Nat)(a:Option Addr)(n cap:Nat)(c:List Int)(ao:Option Addr)(no ko:Nat)(o:List Pr)(me te mo dr:Int)(w:World)(KF:KFm)(ht:tar.Came w pt lt ct t.ts)(h:RowU w a n c)(hw:∀x∈c,0≤x∧x<4294967296)(ho:ora.RowP w ao no o):Calls Tryz.prog 10 #[.agg #[.slice pt lt ct,zI t.ff,zI t.fb,zI t.db,zI t.al],.slice a n cap,.agg #[.slice ao no ko],.agg #[zI 2,zI me,zI mo,zI 0,zI 0,zI 0,zI 0,zI 0,zI 0,zI 0,zI 0,zI 0,zI 0],zI te,zI dr] w λe w'=>TokPost w (TokIs 2 t c o me te mo dr) e w':=by
 have HO:Hid (∀W,zB w W→ora.RowP W ao no o):=λW hW=>ho.below hW;have e1:Hid KFm:=KF;clear ho KF;have HC:Hid (∀W,zB w W→RowU W a n c):=λW hW=>h.below hW;have HT:Hid (∀W,zB w W→tar.Came W pt lt ct t.ts):=λW hW=>ht.below hW;have HW:=zh hw;clear h ht hw;obtain⟨W0,H,cj,cf,ck,ci,cg,bS,f0⟩:=sh5 w #[.slice pt lt ct,zI t.ff,zI t.fb,zI t.db,zI t.al] 24 #[.slice ao no ko] 28 #[zI 2,zI me,zI mo,zI 0,zI 0,zI 0,zI 0,zI 0,zI 0,zI 0,zI 0,zI 0,zI 0] 44 #[zS] 28 #[zI 0,zI 0,zI 0,zI 0,zI 0,zI 0,zI 0,zI 0,.string ⟨#[]⟩] 35;go_enter Tryz.func10,Tryz.ntmps10;go_upto_region 1 with fail
 rw[H.o];have e4:Hid (zC 20 #[.agg #[.slice pt lt ct,zI t.ff,zI t.fb,zI t.db,zI t.al],.slice a n cap] W0 λe w'=>LoadPost W0 t c e w'):=rloaded t pt lt ct a n cap c W0 (HT.o _ bS.o) (HC.o _ bS.o) HW.o
 go_wp2_with (first
  |(refine zqw rfl rfl rfl cj zqu24 ?_)
  |(refine zqw rfl rfl rfl cf zqu28 ?_)
  |(refine zqw rfl rfl rfl ck zqu44 ?_)
  |(refine zqw rfl rfl rfl ci zqu28 ?_)
  |(refine zqw rfl rfl rfl cg zqu35 ?_)
  | fail)
 refine e4.o.mono ?_;rintro e w1 ⟨p2,m2,c2,xs,bk,g,rfl,dj,dt,eZ,bB⟩;obtain⟨dH,dE,dI,dG,dF⟩:=zn5 bB cj cf ck ci cg;have dD:=shB bS bB;have eL:=bB.size;clear bB;have bA:=zh dj;have d9:=zh dt;clear dj dt;have eT:Hid (zB w1 w1):=zb;obtain⟨W2,H,bm,bl,eC⟩:=sh1 w1 #[.slice p2 m2 c2] 65;obtain⟨br,bn,bb,bq,bp⟩:=zn5 bl.o dH dE dI dG dF;have cI:=shB dD bl.o;go_upto_region 2 with fail
 rw[H.o];by_cases h0:g=0
 ·subst h0;have ea:=zh (d9.o.below bl.o);have dY:=zh (book.rfound p2 m2 c2 xs me W2 ea.o.row (by omega));have ce:=zy1 bb
  go_wp2_with (first
   |(refine zqw rfl rfl rfl br zqu24 ?_)
   |(refine zqw rfl rfl rfl bn zqu28 ?_)
   |(refine zqw rfl rfl rfl bb zqu44 ?_)
   |(refine zqw rfl rfl rfl bq zqu28 ?_)
   |(refine zqw rfl rfl rfl bp zqu35 ?_)
   |(refine zqw rfl rfl rfl bm zqu65 ?_)
   | fail)
  clear ce;refine dY.o.mono ?_;rintro e O ⟨x,rfl,dg,az⟩;obtain⟨z,q,A,u,s⟩:=zn5 az br bn bb bq bp;have p:=shN bm az;have dJ:=shB bl az;have G:=shB cI az;have eM:=az.size;clear az;have E:=zh (d9.o.below dJ.o);have ee:=found_first E.o.len E.o.num dg;clear dg;rcases ee with⟨rfl,bj⟩|⟨k,rfl,ax,di⟩
  ·have HV:Hid (TokIs 2 t c o me te mo dr [] [] rc0 18):=⟨bk,0,bA.o,.inr (.inl ⟨rfl,bj,rfl,rfl,rfl,rfl⟩)⟩
   clear bj
   go_wp2_with (first
    |(refine zql rfl rfl rfl rfl zqu28 (by simp[Value.oneCell']) u rfl ?_)
    |(refine zqw rfl rfl rfl z zqu24 ?_)
    |(refine zqw rfl rfl rfl q zqu28 ?_)
    |(refine zqw rfl rfl rfl A zqu44 ?_)
    |(refine zqw rfl rfl rfl u zqu28 ?_)
    |(refine zqw rfl rfl rfl s zqu35 ?_)
    |(refine zqw rfl rfl rfl p zqu65 ?_)
    | fail)
   intro f1 d;obtain⟨bv,bu,bw,be,bt⟩:=zk5 d z q A s p;have bs:=zk d G;have bf:=zyb d;have ej:=d.size;clear d z q A u s p G
   go_wp2_with (first
    |(refine zql rfl rfl rfl rfl zqu35 (by simp[Value.oneCell']) be rfl ?_)
    |(refine zqw rfl rfl rfl bv zqu24 ?_)
    |(refine zqw rfl rfl rfl bu zqu28 ?_)
    |(refine zqw rfl rfl rfl bw zqu44 ?_)
    |(refine zqw rfl rfl rfl bf zqu28 ?_)
    |(refine zqw rfl rfl rfl be zqu35 ?_)
    |(refine zqw rfl rfl rfl bt zqu65 ?_)
    | fail)
   intro dx d;obtain⟨cL,cK,cM,bV,cJ⟩:=zk5 d bv bu bw bf bt;have bT:=zk d bs;have bU:=zyb d;have dB:=d.size;clear d bv bu bw bf be bt bs;have ed:Hid (dx.cell? ⟨w.heap.size+1+1+1,0,none⟩=some (zS)):=bV.o.cell 0;go_wp2_with fail;exact zr (.tuple #[zS,.agg #[zS],.agg #[zI 0,zI 0,zI 0,zI 0,zI 0,zI 0,zI 0,zI 0,.string ⟨#[]⟩],zI 18]) (by simp[results,Tryz.results10,ed.o,scl9 bU,go_sem]) ⟨_,[],none,0,0,[],rc0,18,rfl,HV.o,cell.Lw.zero _ _,ora.RowP.nil _ _,λ_=>rfl,zc,(λy m=>by cases m),bT.o⟩
  ·have cX:Hid (FirstAt bk me k):=ax;have dk:decide ((k:Int)<0)=false:=decide_eq_false (by omega);clear ax
   obtain⟨cb,co,hpp,hcl,hcc⟩:∃b off,p2=some ⟨b,off,none⟩∧b<O.heap.size∧∀i j,i<m2→j<8→O.cell? ⟨b,off+i*8+j,none⟩=(xs.getD i book.cu0).cs[j]?:=by
    rcases E.o.row.2 with h|h
    ·have:=E.o.row.1;omega
    ·exact h
   subst hpp;have L:k<m2:=by have:=E.o.row.1;omega
   have M:=E.o.num k di;have df:=E.o.ds k di;have y0:O.cell? ⟨cb,co+k*8,none⟩=some (zI (bk.getD k cm0).a.me):=(hcc k 0 L (by decide)).trans (by rw[← M.1];rfl);have y1:O.cell? ⟨cb,co+k*8+1,none⟩=some (zI (bk.getD k cm0).a.rv):=(hcc k 1 L (by decide)).trans (by rw[← M.2.1];rfl);have y2:O.cell? ⟨cb,co+k*8+2,none⟩=some (zI (bk.getD k cm0).a.nx):=(hcc k 2 L (by decide)).trans (by rw[← M.2.2.1];rfl);have y3:O.cell? ⟨cb,co+k*8+3,none⟩=some (zI (bk.getD k cm0).a.mo):=(hcc k 3 L (by decide)).trans (by rw[← M.2.2.2.1];rfl);have y4:O.cell? ⟨cb,co+k*8+4,none⟩=some (zI (bk.getD k cm0).a.bo):=(hcc k 4 L (by decide)).trans (by rw[← M.2.2.2.2.1];rfl);have y5:O.cell? ⟨cb,co+k*8+5,none⟩=some (zI (bk.getD k cm0).a.fr):=(hcc k 5 L (by decide)).trans (by rw[← M.2.2.2.2.2];rfl);have y6:O.cell? ⟨cb,co+k*8+6,none⟩=some (.slice (xs.getD k book.cu0).dp (xs.getD k book.cu0).dn (xs.getD k book.cu0).dc):=hcc k 6 L (by decide);clear hcc M;generalize (xs.getD k book.cu0).dp=dp at *;generalize (xs.getD k book.cu0).dn=dn at *;generalize (xs.getD k book.cu0).dc=dc at *;generalize m:(bk.getD k cm0).a=y at *;have HY:Hid ((bk.getD k cm0).a=y):=m;clear m;have cW:Hid (∀W,zB O W→tar.Came W dp dn dc y.ds):=λW hW=>df.below hW;clear df E;have dK:Hid (zB O O):=zb;have em:=zy0 p;obtain⟨W4,H,dL,bx,eD⟩:=sh1 O #[zI y.me,zI y.rv,zI y.nx,zI y.mo,zI y.bo,zI y.fr,.slice dp dn dc] 55;obtain⟨cL,cK,cM,bV,bU⟩:=zn5 bx.o z q A u s;have cJ:=shN p bx.o;have bT:=shB G bx.o;go_upto_region 8 with fail
   clear z q A u s p dK G;rw[H.o];clear y0 y1 y2 y3 y4 y5 y6 em dk;have cS:=zya cL (.cells #[zI 0,zI 0,zI 0,zI 0] 73);have cO:=zya cK (.cells #[zI 0,zI 0,zI 0,zI 0] 73);have bz:=zya cM (.cells #[zI 0,zI 0,zI 0,zI 0] 73);have cR:=zya bV (.cells #[zI 0,zI 0,zI 0,zI 0] 73);have cP:=zya bU (.cells #[zI 0,zI 0,zI 0,zI 0] 73);have cN:=zya cJ (.cells #[zI 0,zI 0,zI 0,zI 0] 73);have cT:=zya dL (.cells #[zI 0,zI 0,zI 0,zI 0] 73);have bX:=zyf bx (.cells #[zI 0,zI 0,zI 0,zI 0] 73);have cQ:=zye W4 #[zI 0,zI 0,zI 0,zI 0] 73;have bW:=zyf bT (.cells #[zI 0,zI 0,zI 0,zI 0] 73);have eE:=(Blk.new W4 #[zI 0,zI 0,zI 0,zI 0] 73).lt;go_upto_region 9 with fail
   generalize (W4.alloc (.cells #[zI 0,zI 0,zI 0,zI 0] 73))=W5 at *;have dV:Hid (zC 22 #[.agg #[zI y.me,zI y.rv,zI y.nx,zI y.mo,zI y.bo,zI y.fr,.slice dp dn dc],.agg #[.slice pt lt ct,zI t.ff,zI t.fb,zI t.db,zI t.al],zI te,zI mo] W5 λe w'=>acc.BPost W5 (SellIs y t te mo) e w'):=acc.rsold y dp dn dc t pt lt ct te mo W5 (cW.o _ bX.o).row (cW.o _ bX.o).most (HT.o _ bW.o).row (HT.o _ bW.o).most;have aC:=zy0 bz;have en:=zy2 bz
   go_wp2_with (first
    |(refine zqw rfl rfl rfl cS zqu24 ?_)
    |(refine zqw rfl rfl rfl cO zqu28 ?_)
    |(refine zqw rfl rfl rfl bz zqu44 ?_)
    |(refine zqw rfl rfl rfl cR zqu28 ?_)
    |(refine zqw rfl rfl rfl cP zqu35 ?_)
    |(refine zqw rfl rfl rfl cN zqu65 ?_)
    |(refine zqw rfl rfl rfl cT zqu55 ?_)
    |(refine zqw rfl rfl rfl cQ zqu73 ?_)
    | fail)
   clear aC en;refine dV.o.mono ?_;rintro e w6 ⟨b,l,p4,n4,c4,h4,rfl,du,ef,aA⟩;obtain⟨dS,dO,dT,dR,dP⟩:=zn5 aA cS cO bz cR cP;obtain⟨dN,dU,dQ⟩:=zn3 aA cN cT cQ;have eU:=shB bX aA;have dM:=shB bW aA;have eN:=aA.size;clear aA;unfold acc.Ac.v acc.Ac.cs acc.Bi.v;have ca:=zh du;clear du ef;have d3:Hid (putAll #[zI 2,zI me,zI mo,zI 0,zI 0,zI 0,zI 0,zI 0,zI 0,zI 0,zI 0,zI 0,zI 0] 3 (#[zI l.id,zI l.te,zI l.de,zI l.fe,zI l.pr,zI l.ch,zI l.un]:Array Value).toList=#[zI 2,zI me,zI mo,zI l.id,zI l.te,zI l.de,zI l.fe,zI l.pr,zI l.ch,zI l.un,zI 0,zI 0,zI 0]):=by show _=_;kernel_rfl
   go_wp2_with (first|(refine wp_let rfl 33 _ _ rfl (w.heap.size+1+1) 3 rfl (.agg #[zI l.id,zI l.te,zI l.de,zI l.fe,zI l.pr,zI l.ch,zI l.un]) rfl #[zI l.id,zI l.te,zI l.de,zI l.fe,zI l.pr,zI l.ch,zI l.un] rfl (by kernel_rfl) (by simp[Value.oneCell']) #[zI 2,zI me,zI mo,zI 0,zI 0,zI 0,zI 0,zI 0,zI 0,zI 0,zI 0,zI 0,zI 0] 44 dT.o (by simp) #[zI 2,zI me,zI mo,zI l.id,zI l.te,zI l.de,zI l.fe,zI l.pr,zI l.ch,zI l.un,zI 0,zI 0,zI 0] d3.o ?_)|fail)
   intro W7 d;obtain⟨c7,bZ,c6,c3,bY⟩:=zk5 d dS dO dR dP dN;obtain⟨c8,cV⟩:=zk2 d dU dQ;have cU:=zk d dM;have ay:=zyb d;have eF:=d.size;clear d;by_cases h5:h4=0
   ·subst h5;have dw:=sell_tok ca.o;have eb:Hid (Tells t (bk.getD k cm0) (askE 2 me te mo) b l 0):=.inl ⟨rfl,by rw[HY.o];exact ca.o⟩;have cc:Hid (∀ls o2 r f,TagIs 2 y.rv me mo dr c o l ls o2 r f→TokIs 2 t c o me te mo dr ls o2 r f):=λls o2 r f hh=>⟨bk,0,bA.o,.inr (.inr ⟨rfl,k,b,l,0,cX.o,eb.o,.inr ⟨rfl,by rw[HY.o];exact hh⟩⟩)⟩;have aC:=zy0 ay;have eo:=zy3 ay;go_wp2_with refine zl ?_;intro W8 d;obtain⟨U,Q,B,T,R⟩:=zk5 d c7 bZ ay c6 c3;obtain⟨P,X⟩:=zk2 d bY c8;have aD:=zk d cU;have aE:=zyb d;have eG:=d.size;clear d;clear aC eo;have ep:=zy9 B;go_wp2_with refine zl ?_;intro W9 d;obtain⟨aJ,aH,a0,Z,Y⟩:=zk5 d U Q B T R;obtain⟨aG,aK⟩:=zk2 d P X;have aF:=zk d aD;have aI:=zyb d;have eH:=d.size;clear d;clear ep;have N:=tokB_ok (kd:=2) (rv:=y.rv) (by decide) dw (tg:=0) (by decide)
    have c9:Hid (zC 25 #[.agg #[zI 0,zI l.id,zI l.un,zI 0]] W9 λe w'=>e=.returned (.tuple #[zI ((tokB 2 y.rv l 0).body:Int),zI 0])∧zB W9 w'):=by
     have hh:=token.bodyOf_ok _ W9 N.1;rw[N.2] at hh;exact hh
    clear N;have aC:=zy0 a0
    go_wp2_with (first
     |(refine zqw rfl rfl rfl aJ zqu24 ?_)
     |(refine zqw rfl rfl rfl aH zqu28 ?_)
     |(refine zqw rfl rfl rfl a0 zqu44 ?_)
     |(refine zqw rfl rfl rfl Z zqu28 ?_)
     |(refine zqw rfl rfl rfl Y zqu35 ?_)
     |(refine zqw rfl rfl rfl aG zqu65 ?_)
     |(refine zqw rfl rfl rfl aK zqu55 ?_)
     |(refine zqw rfl rfl rfl aI zqu73 ?_)
     | fail)
    clear aC;refine c9.o.mono ?_;rintro e wA ⟨rfl,bh⟩;obtain⟨bI,bE,aL,bH,bF⟩:=zn5 bh aJ aH a0 Z Y;obtain⟨bD,aM,bG⟩:=zn3 bh aG aK aI;have bC:=shB aF bh;have eO:=bh.size;clear bh;generalize da:((tokB 2 y.rv l 0).body:Int)=BD at *;have c9:=zh da;clear da;have dZ:Hid (zC 26 #[.agg #[.slice ao no ko],zI me,zI y.rv,zI BD,zI dr] wA λe w'=>ora.IssuePostN wA o me y.rv BD dr e w'):=ora.issued_new ao no ko o me y.rv BD dr wA (HO.o _ bC.o);have ce:=zy1 aL;have er:=zy1 aM
    go_wp2_with (first
     |(refine zqw rfl rfl rfl bI zqu24 ?_)
     |(refine zqw rfl rfl rfl bE zqu28 ?_)
     |(refine zqw rfl rfl rfl aL zqu44 ?_)
     |(refine zqw rfl rfl rfl bH zqu28 ?_)
     |(refine zqw rfl rfl rfl bF zqu35 ?_)
     |(refine zqw rfl rfl rfl bD zqu65 ?_)
     |(refine zqw rfl rfl rfl aM zqu55 ?_)
     |(refine zqw rfl rfl rfl bG zqu73 ?_)
     | fail)
    clear ce er;refine dZ.o.mono ?_;rintro e wB ⟨p5,n5,c5,o5,F,g5,rfl,cd,dm,dd,dq,bR,bi⟩;obtain⟨cv,cp,cw,cu,cq⟩:=zn5 bi bI bE aL bH bF;obtain⟨cn,cx,cr⟩:=zn3 bi bD aM bG;have cm:=shB bC bi;have eP:=bi.size;clear bi;have HII:Hid (IssueIs o me y.rv ((tokB 2 y.rv l 0).body:Int) dr o5 F g5):=by show IssueIs _ _ _ _ _ _ _ _;rw[c9.o];exact bR
    have e9:=zh cd;have d2:Hid ((p5=none→c5=0)∧n5≤c5):=⟨dm,dd⟩
    have bg:=zh dq
    have eV:Hid (∀y,0<n5→p5=some y→y.block<wB.heap.size):=λy hn m=>by
     obtain⟨b8,o8,h8,l8,_⟩:=cd.at hn;rw[h8] at m;cases m;exact l8
    clear cd dm dd dq bR;have es:Hid (zB wB wB):=zb;obtain⟨WC,H,aO,a1,eI⟩:=sh1 wB #[.slice p5 n5 c5] 28;obtain⟨aS,aP,aT,aR,aQ⟩:=zn5 a1.o cv cp cw cu cq;obtain⟨aN,aU,bK⟩:=zn3 a1.o cn cx cr;have bJ:=shB cm a1.o;go_upto_region 24 with fail
    rw[H.o];by_cases h6:g5=0
    ·subst h6;have el:=issue_tag HII.o;go_wp2_with refine zl ?_;intro WD d;have e6:Hid (ora.RowP WD p5 n5 o5):=rowP_upd (e9.o.below a1.o) d (λ_ y m=>by have:=bg.o y m;omega);obtain⟨a8,a4,aW,a7,a5⟩:=zk5 d aS aP aT aR aQ;obtain⟨a2,a9,a3⟩:=zk3 d aN aU aO;have aV:=zk d bJ;have a6:=zyb d;have eJ:=d.size;clear d;go_wp2_with refine zl ?_;intro WE d;have e7:Hid (ora.RowP WE p5 n5 o5):=rowP_upd e6.o d (λ_ y m=>by have:=bg.o y m;omega);obtain⟨b1,aZ,ac,ab,aX⟩:=zk5 d a8 a4 a7 a5 a2;obtain⟨b3,b0,aY⟩:=zk3 d a9 a6 a3;have aa:=zk d aV;have b2:=zyb d;have eK:=d.size;clear d;have e0:Hid (zC 27 #[.slice a n cap,.agg #[zI 2,zI me,zI mo,zI l.id,zI l.te,zI l.de,zI l.fe,zI l.pr,zI l.ch,zI l.un,zI F,zI 0,zI 0]] WE λe w'=>WrPost WE (KeepIs c (tokE 2 me mo l F)) e w'):=rkeeps a n cap c (tokE 2 me mo l F) WE (HC.o _ aa.o) HW.o;have cy:Hid (zB WE WE):=zb
     go_wp2_with (first
      |(refine zqw rfl rfl rfl b1 zqu24 ?_)
      |(refine zqw rfl rfl rfl aZ zqu28 ?_)
      |(refine zqw rfl rfl rfl b2 zqu44 ?_)
      |(refine zqw rfl rfl rfl ac zqu28 ?_)
      |(refine zqw rfl rfl rfl ab zqu35 ?_)
      |(refine zqw rfl rfl rfl aX zqu65 ?_)
      |(refine zqw rfl rfl rfl b3 zqu55 ?_)
      |(refine zqw rfl rfl rfl b0 zqu73 ?_)
      |(refine zqw rfl rfl rfl aY zqu28 ?_)
      | fail)
     refine e0.o.mono ?_;rintro e wF ⟨V,ls,f7,rfl,dh,dl,aB⟩;obtain⟨aj,af,ak,ai,ag⟩:=zn5 aB b1 aZ b2 ac ab;obtain⟨ad,am,ah,ae⟩:=zn4 aB aX b3 b0 aY;have cz:=shB cy aB;have bL:=shB aa aB;have eQ:=aB.size;clear aB;have cY:=zh dh;have e5:=zh dl;clear dh dl;have cA:Hid (zB wF wF):=zb;by_cases h7:f7=0
     ·subst h7;have N:=tokB_ok (kd:=2) (rv:=y.rv) (by decide) dw (tg:=F) el
      have dX:Hid (zC 28 #[.agg #[zI 0,zI l.id,zI l.un,zI F]] wF λe w'=>e=.returned (.tuple #[.string (token.fmtB (97*(tokB 2 y.rv l F).num)),zI 0])∧zB wF w'):=by
       have hh:=e1.o _ wF N.1;rw[N.2] at hh;exact hh
      clear N
      go_wp2_with (first
       |(refine zqw rfl rfl rfl aj zqu24 ?_)
       |(refine zqw rfl rfl rfl af zqu28 ?_)
       |(refine zqw rfl rfl rfl ak zqu44 ?_)
       |(refine zqw rfl rfl rfl ai zqu28 ?_)
       |(refine zqw rfl rfl rfl ag zqu35 ?_)
       |(refine zqw rfl rfl rfl ad zqu65 ?_)
       |(refine zqw rfl rfl rfl am zqu55 ?_)
       |(refine zqw rfl rfl rfl ah zqu73 ?_)
       |(refine zqw rfl rfl rfl ae zqu28 ?_)
       | fail)
      refine dX.o.mono ?_;rintro e wG ⟨rfl,J⟩;obtain⟨av,ap,D,au,aq⟩:=zn5 J aj af ak ai ag;obtain⟨an,aw,ar,C⟩:=zn4 J ad am ah ae;have cC:=shB cz J;have cB:=shB cA J;have b4:=shB bL J;have eR:=J.size;clear J;have e8:=zh (e7.o.below cC.o);have ec:Hid (TokIs 2 t c o me te mo dr ls o5 (recB 2 y.rv me l F) 0):=cc.o _ _ _ _ ⟨o5,F,0,HII.o,.inr ⟨rfl,ls,0,cY.o,.inr ⟨rfl,rfl,rfl,rfl,rfl⟩⟩⟩;have dW:Hid (token.fmtB (97*(tokB 2 y.rv l F).num)=⟨(fmtL (97*(tokB 2 y.rv l F).num)).toArray⟩):=rfl;have e3:=zh (cell_lw_next e5.o cB.o);generalize token.fmtB (97*(tokB 2 y.rv l F).num)=TX at *;go_wp2_with fail;refine wp_region_held_drew (S:=λv=>Blk v (wB.heap.size) #[.slice p5 n5 c5] 28∧Blk v (w.heap.size+1+1) #[zI 2,zI me,zI mo,zI l.id,zI l.te,zI l.de,zI l.fe,zI l.pr,zI l.ch,zI l.un,zI F,zI 0,zI 0] 44) (by kernel_rfl) ⟨Blk.drew C.o 1,Blk.drew D.o 1⟩ (λI=>?_);refine zt' 0 V ?_;refine zu' 1 (.agg #[.slice p5 n5 c5]) rfl rfl (Or.inl ⟨by rfl,λv hv=>by have g0:=hv.1.cell 0;clear hv;go_simp⟩) ?_;refine zt' 2 (.pointer (some ⟨w.heap.size+1+1,1,none⟩)) ?_;refine zu' 3 (zI me) rfl rfl (Or.inl ⟨by rfl,λv hv=>by have g0:=hv.2.cell 1;clear hv;go_simp⟩) ?_;refine zt' 4 (.pointer (some ⟨w.heap.size+1+1,3,none⟩)) ?_;refine zu' 5 (.agg #[zI l.id,zI l.te,zI l.de,zI l.fe,zI l.pr,zI l.ch,zI l.un]) rfl rfl (Or.inl ⟨by rfl,λv hv=>by have g0:=hv.2.cell 3;have g1:=hv.2.cell 4;have g2:=hv.2.cell 5;have g3:=hv.2.cell 6;have g4:=hv.2.cell 7;have g5:=hv.2.cell 8;have g6:=hv.2.cell 9;clear hv;go_simp⟩) ?_;refine zt' 6 (.string TX) ?_;refine zt' 7 (.agg #[zI me,zI l.id,zI l.te,zI l.de,zI l.fe,zI l.pr,zI l.ch,zI l.un,.string TX]) ?_;refine zt' 8 V ?_;refine zo 9 λK hK=>?_;rw[if_pos (by rfl)];refine wp_letOp 28 _ _ rfl (w.heap.size+1+1+1) rfl #[.slice p5 n5 c5] rfl (by kernel_rfl) (by simp[Value.oneCell']) #[zS] 28 (Blk.drew au.o 1) rfl rfl ?_
      intro V1 d;have bP:=zh (d.keep (Blk.drew av.o 1) (by omega));have bN:=zh (d.keep (Blk.drew ap.o 1) (by omega));have ba:=zh (d.keep (Blk.drew D.o 1) (by omega));have b9:=zyb d;have b7:=zh (d.keep (Blk.drew aq.o 1) (by omega));have bM:=zh (d.keep (Blk.drew an.o 1) (by omega));have bQ:=zh (d.keep (Blk.drew aw.o 1) (by omega));have bO:=zh (d.keep (Blk.drew ar.o 1) (by omega));have b6:=zh (d.keep (Blk.drew C.o 1) (by omega));have d4:Hid (ora.RowP V1 p5 n5 o5):=rowP_upd (e8.o.below (bel_drew zb 1)) d (λ_ y m=>by have:=bg.o y m;omega);have cZ:Hid (Lw V1 WE.heap.size V ls):=lw_upd (cell_lw_next e3.o (bel_drew zb 1)) d (by omega);have b5:Hid (zB w V1):=d.bel _ _ (by omega) b4.o.drew;clear d;refine hK.o _ _ ⟨b6.o,ba.o⟩ (λI=>?_);clear hK K;refine zo 10 λK hK=>?_;rw[if_pos (by rfl)];refine wp_letOp 35 _ _ rfl (w.heap.size+1+1+1+1) rfl #[zI me,zI l.id,zI l.te,zI l.de,zI l.fe,zI l.pr,zI l.ch,zI l.un,.string TX] rfl (by kernel_rfl) (by simp[Value.oneCell']) #[zI 0,zI 0,zI 0,zI 0,zI 0,zI 0,zI 0,zI 0,.string ⟨#[]⟩] 35 b7.o rfl rfl ?_;intro V2 d;obtain⟨ew,eu,cH,cG,et⟩:=zk5 d bP bN ba b9 bM;obtain⟨ey,ev,cE⟩:=zk3 d bQ bO b6;have cF:=zyb d;have d8:Hid (ora.RowP V2 p5 n5 o5):=rowP_upd d4.o d (λ_ y m=>by have:=bg.o y m;omega);have d1:=zh (lw_upd cZ.o d (by omega));have cD:=zk d b5;clear d;refine hK.o _ _ ⟨cE.o,cH.o⟩ (λI=>?_);clear hK K;refine zt' 11 (zI 0) ?_;refine wpAnyH_done (by kernel_rfl) ?_ _;clear I;have e2:Hid (Lw V2 w.heap.size V ls):=lw_low d1.o (by omega);go_wp2_with fail;exact zr (.tuple #[V,.agg #[.slice p5 n5 c5],.agg #[zI me,zI l.id,zI l.te,zI l.de,zI l.fe,zI l.pr,zI l.ch,zI l.un,.string TX],zI 0]) (by simp[results,Tryz.results10,zy0 cG,scl9 cF,go_sem]) ⟨V,ls,p5,n5,c5,o5,recB 2 y.rv me l F,0,by (rw[dW.o];rfl),ec.o,e2.o,d8.o,d2.o.1,d2.o.2,(λy m=>by have:=bg.o y m;omega),cD.o⟩
     ·have d7:(f7 != 0)=true:=by simpa using h7
      have HV:Hid (TokIs 2 t c o me te mo dr [] [] rc0 f7):=cc.o _ _ _ _ ⟨o5,F,0,HII.o,.inr ⟨rfl,ls,f7,cY.o,.inl ⟨h7,rfl,rfl,rfl,rfl⟩⟩⟩;clear h7
      go_wp2_with (first
       |(refine zql rfl rfl rfl rfl zqu28 (by simp[Value.oneCell']) ai rfl ?_)
       |(refine zqw rfl rfl rfl aj zqu24 ?_)
       |(refine zqw rfl rfl rfl af zqu28 ?_)
       |(refine zqw rfl rfl rfl ak zqu44 ?_)
       |(refine zqw rfl rfl rfl ai zqu28 ?_)
       |(refine zqw rfl rfl rfl ag zqu35 ?_)
       |(refine zqw rfl rfl rfl ad zqu65 ?_)
       |(refine zqw rfl rfl rfl am zqu55 ?_)
       |(refine zqw rfl rfl rfl ah zqu73 ?_)
       |(refine zqw rfl rfl rfl ae zqu28 ?_)
       | fail)
      intro f2 d;obtain⟨av,ap,D,aq,an⟩:=zk5 d aj af ak ag ad;obtain⟨aw,ar,C⟩:=zk3 d am ah ae;have b4:=zk d bL;have au:=zyb d;have ek:=d.size;clear d
      go_wp2_with (first
       |(refine zql rfl rfl rfl rfl zqu35 (by simp[Value.oneCell']) aq rfl ?_)
       |(refine zqw rfl rfl rfl av zqu24 ?_)
       |(refine zqw rfl rfl rfl ap zqu28 ?_)
       |(refine zqw rfl rfl rfl D zqu44 ?_)
       |(refine zqw rfl rfl rfl au zqu28 ?_)
       |(refine zqw rfl rfl rfl aq zqu35 ?_)
       |(refine zqw rfl rfl rfl an zqu65 ?_)
       |(refine zqw rfl rfl rfl aw zqu55 ?_)
       |(refine zqw rfl rfl rfl ar zqu73 ?_)
       |(refine zqw rfl rfl rfl C zqu28 ?_)
       | fail)
      intro eS d;obtain⟨bP,bN,ba,b9,bM⟩:=zk5 d av ap D au an;obtain⟨bQ,bO,b6⟩:=zk3 d aw ar C;have b5:=zk d b4;have b7:=zyb d;have dC:=d.size;clear d;go_wp2_with fail;exact zr (.tuple #[zS,.agg #[zS],.agg #[zI 0,zI 0,zI 0,zI 0,zI 0,zI 0,zI 0,zI 0,.string ⟨#[]⟩],zI f7]) (by simp[results,Tryz.results10,zy0 b9,scl9 b7,go_sem]) ⟨_,[],none,0,0,[],rc0,f7,rfl,HV.o,cell.Lw.zero _ _,ora.RowP.nil _ _,λ_=>rfl,zc,(λy m=>by cases m),b5.o⟩
    ·have d6:(g5 != 0)=true:=by simpa using h6
     have HV:Hid (TokIs 2 t c o me te mo dr [] [] rc0 g5):=cc.o _ _ _ _ ⟨o5,F,g5,HII.o,.inl ⟨h6,rfl,rfl,rfl,rfl⟩⟩;clear h6
     go_wp2_with (first
      |(refine zql rfl rfl rfl rfl zqu28 (by simp[Value.oneCell']) aR rfl ?_)
      |(refine zqw rfl rfl rfl aS zqu24 ?_)
      |(refine zqw rfl rfl rfl aP zqu28 ?_)
      |(refine zqw rfl rfl rfl aT zqu44 ?_)
      |(refine zqw rfl rfl rfl aR zqu28 ?_)
      |(refine zqw rfl rfl rfl aQ zqu35 ?_)
      |(refine zqw rfl rfl rfl aN zqu65 ?_)
      |(refine zqw rfl rfl rfl aU zqu55 ?_)
      |(refine zqw rfl rfl rfl bK zqu73 ?_)
      |(refine zqw rfl rfl rfl aO zqu28 ?_)
      | fail)
     intro eY d;obtain⟨a8,a4,aW,a5,a2⟩:=zk5 d aS aP aT aQ aN;obtain⟨a9,a6,a3⟩:=zk3 d aU bK aO;have aV:=zk d bJ;have a7:=zyb d;have ei:=d.size;clear d
     go_wp2_with (first
      |(refine zql rfl rfl rfl rfl zqu35 (by simp[Value.oneCell']) a5 rfl ?_)
      |(refine zqw rfl rfl rfl a8 zqu24 ?_)
      |(refine zqw rfl rfl rfl a4 zqu28 ?_)
      |(refine zqw rfl rfl rfl aW zqu44 ?_)
      |(refine zqw rfl rfl rfl a7 zqu28 ?_)
      |(refine zqw rfl rfl rfl a5 zqu35 ?_)
      |(refine zqw rfl rfl rfl a2 zqu65 ?_)
      |(refine zqw rfl rfl rfl a9 zqu55 ?_)
      |(refine zqw rfl rfl rfl a6 zqu73 ?_)
      |(refine zqw rfl rfl rfl a3 zqu28 ?_)
      | fail)
     intro eB d;obtain⟨b1,aZ,b2,ac,aX⟩:=zk5 d a8 a4 aW a7 a2;obtain⟨b3,b0,aY⟩:=zk3 d a9 a6 a3;have aa:=zk d aV;have ab:=zyb d;have dA:=d.size;clear d;go_wp2_with fail;exact zr (.tuple #[zS,.agg #[zS],.agg #[zI 0,zI 0,zI 0,zI 0,zI 0,zI 0,zI 0,zI 0,.string ⟨#[]⟩],zI g5]) (by simp[results,Tryz.results10,zy0 ac,scl9 ab,go_sem]) ⟨_,[],none,0,0,[],rc0,g5,rfl,HV.o,cell.Lw.zero _ _,ora.RowP.nil _ _,λ_=>rfl,zc,(λy m=>by cases m),aa.o⟩
   ·have d5:(h4 != 0)=true:=by simpa using h5
    have HV:Hid (TokIs 2 t c o me te mo dr [] [] rc0 h4):=⟨bk,0,bA.o,.inr (.inr ⟨rfl,k,b,l,h4,cX.o,.inl ⟨rfl,by rw[HY.o];exact ca.o⟩,.inl ⟨h5,rfl,rfl,rfl,rfl⟩⟩)⟩
    clear h5;have aC:=zy0 ay
    go_wp2_with (first
     |(refine zql rfl rfl rfl rfl zqu28 (by simp[Value.oneCell']) c6 rfl ?_)
     |(refine zqw rfl rfl rfl c7 zqu24 ?_)
     |(refine zqw rfl rfl rfl bZ zqu28 ?_)
     |(refine zqw rfl rfl rfl ay zqu44 ?_)
     |(refine zqw rfl rfl rfl c6 zqu28 ?_)
     |(refine zqw rfl rfl rfl c3 zqu35 ?_)
     |(refine zqw rfl rfl rfl bY zqu65 ?_)
     |(refine zqw rfl rfl rfl c8 zqu55 ?_)
     |(refine zqw rfl rfl rfl cV zqu73 ?_)
     | fail)
    intro eX d;obtain⟨U,Q,B,R,P⟩:=zk5 d c7 bZ ay c3 bY;obtain⟨X,aE⟩:=zk2 d c8 cV;have aD:=zk d cU;have T:=zyb d;have eh:=d.size;clear d
    go_wp2_with (first
     |(refine zql rfl rfl rfl rfl zqu35 (by simp[Value.oneCell']) R rfl ?_)
     |(refine zqw rfl rfl rfl U zqu24 ?_)
     |(refine zqw rfl rfl rfl Q zqu28 ?_)
     |(refine zqw rfl rfl rfl B zqu44 ?_)
     |(refine zqw rfl rfl rfl T zqu28 ?_)
     |(refine zqw rfl rfl rfl R zqu35 ?_)
     |(refine zqw rfl rfl rfl P zqu65 ?_)
     |(refine zqw rfl rfl rfl X zqu55 ?_)
     |(refine zqw rfl rfl rfl aE zqu73 ?_)
     | fail)
    intro eA d;obtain⟨aJ,aH,a0,Z,aG⟩:=zk5 d U Q B T P;obtain⟨aK,aI⟩:=zk2 d X aE;have aF:=zk d aD;have Y:=zyb d;have dz:=d.size;clear d;go_wp2_with fail;exact zr (.tuple #[zS,.agg #[zS],.agg #[zI 0,zI 0,zI 0,zI 0,zI 0,zI 0,zI 0,zI 0,.string ⟨#[]⟩],zI h4]) (by simp[results,Tryz.results10,zy0 Z,scl9 Y,go_sem]) ⟨_,[],none,0,0,[],rc0,h4,rfl,HV.o,cell.Lw.zero _ _,ora.RowP.nil _ _,λ_=>rfl,zc,(λy m=>by cases m),aF.o⟩
 ·have d0:(g != 0)=true:=by simpa using h0
  have HV:Hid (TokIs 2 t c o me te mo dr [] [] rc0 g):=⟨bk,g,bA.o,.inl ⟨h0,rfl,rfl,rfl,rfl⟩⟩
  clear h0
  go_wp2_with (first
   |(refine zql rfl rfl rfl rfl zqu28 (by simp[Value.oneCell']) bq rfl ?_)
   |(refine zqw rfl rfl rfl br zqu24 ?_)
   |(refine zqw rfl rfl rfl bn zqu28 ?_)
   |(refine zqw rfl rfl rfl bb zqu44 ?_)
   |(refine zqw rfl rfl rfl bq zqu28 ?_)
   |(refine zqw rfl rfl rfl bp zqu35 ?_)
   |(refine zqw rfl rfl rfl bm zqu65 ?_)
   | fail)
  intro eW d;obtain⟨z,q,A,s,p⟩:=zk5 d br bn bb bp bm;have G:=zk d cI;have u:=zyb d;have eg:=d.size;clear d
  go_wp2_with (first
   |(refine zql rfl rfl rfl rfl zqu35 (by simp[Value.oneCell']) s rfl ?_)
   |(refine zqw rfl rfl rfl z zqu24 ?_)
   |(refine zqw rfl rfl rfl q zqu28 ?_)
   |(refine zqw rfl rfl rfl A zqu44 ?_)
   |(refine zqw rfl rfl rfl u zqu28 ?_)
   |(refine zqw rfl rfl rfl s zqu35 ?_)
   |(refine zqw rfl rfl rfl p zqu65 ?_)
   | fail)
  intro ez d;obtain⟨bv,bu,bw,bf,bt⟩:=zk5 d z q A u p;have bs:=zk d G;have be:=zyb d;have dy:=d.size;clear d z q A u s p G;go_wp2_with fail;exact zr (.tuple #[zS,.agg #[zS],.agg #[zI 0,zI 0,zI 0,zI 0,zI 0,zI 0,zI 0,zI 0,.string ⟨#[]⟩],zI g]) (by simp[results,Tryz.results10,zy0 bf,scl9 be,go_sem]) ⟨_,[],none,0,0,[],rc0,g,rfl,HV.o,cell.Lw.zero _ _,ora.RowP.nil _ _,λ_=>rfl,zc,(λy m=>by cases m),bs.o⟩
end vnd
end Go.Proofs.YtoepgdhiepedeaaGreatDoor
