import Derived.Test.YtnpblpbohcegoaaGreatDoorVBNrs34
import Derived.Test.YtnpblpbohcegoaaGreatDoorVBNrs42
set_option linter.unusedVariables false
set_option linter.unusedSimpArgs false
set_option maxHeartbeats 4000000
set_option maxRecDepth 100000
namespace Go.Proofs.YtnpblpbohcegoaaGreatDoor
namespace vnd
open disk (RepIs AppIs May repD lenAt appW Wds)
open book (Ev ev0 EMay evL evOf EncIs DecIs Cm cm0 So so0 BookIs FirstAt NoneAt StepIs HapIs)
open acc (Ac Tm Bi)
open ora (Pr IssueIs)
open cell (Wr wrt RowU RowW)
open rcp (Rc rc0)
open Go.RowKit
theorem BookNumbers_walk {w:World} (K0:KvCha) (K1:KvGrant w) (K2:KvRekey w) (K3:KvSell w) (K4:KvReg) (K5:KvLoad) (d:Tm) (pd:Option Addr) (ld cd:Nat) (pl:Option Addr) (nl cl:Nat) (xs:List Od)  (hd:acc.TCame w d pd ld cd) (hx:RowO w pl nl xs) :
  Calls Tryz.prog 4 #[.agg #[.slice pd ld cd,zI d.ff,zI d.fb,zI d.db,zI d.al],.slice pl nl cl] w fun e w'=>e = .returned (.bool true)∧Below w.heap.size w w':=by
 obtain ⟨W0,HWW,H0d,H0B,-⟩:=sh1 w #[.slice pd ld cd,zI d.ff,zI d.fb,zI d.db,zI d.al] 35;have HOP:Hid (Calls Tryz.prog 14 #[.agg #[.slice pd ld cd,zI d.ff,zI d.fb,zI d.db,zI d.al],.slice pl nl cl] W0 fun e w'=>OpenPost W0 e w'):=opened_any K0 (K1.up H0B.o) (K2.up H0B.o) (K3.up H0B.o) K4 d pd ld cd pl nl cl xs (hd.below H0B.o) (hx.below H0B.o);clear hd hx;go_enter Tryz.func4,Tryz.ntmps4;go_upto_region 1 with fail
 rw [HWW.o];clear HWW;go_wp2_with (first | (refine zqw rfl rfl rfl H0d zqu35 ?_) | fail)
 refine HOP.o.mono ?_;rintro e u1 ⟨t,pt,lt,ct,a,cap,c,ao,no,ko,o,l,bk,rfl,hop,hth,hl3,hl15,hol,hnT,hnO,hb1⟩;have HNT:Hid (0<lt→∀ y,pt=some y→W0.heap.size≤y.block):=hnT;have HNO:Hid (0<no→∀ y,ao=some y→W0.heap.size≤y.block):=hnO;clear hnT hnO;have hal:Below u1.heap.size u1 (u1.alloc (.cells #[zS,zI 0,zI 0,zI 0,zI 0,zS,zS] 41)):=(Below.refl _ _).alloc (Nat.le_refl _) _;have HOP1:Hid (Opn (u1.alloc (.cells #[zS,zI 0,zI 0,zI 0,zI 0,zS,zS] 41)) t pt lt ct a cap c ao no ko o l bk):=hop.next hal;have HF1:Hid (0<lt→∀ y,pt=some y→y.block≠u1.heap.size):=fun hn y hy=>Nat.ne_of_lt (came_ltD hop.tc.ts hn y hy);have HF2:Hid (0<600→∀ y,a=some y→y.block≠u1.heap.size):=fun hn y hy=>Nat.ne_of_lt (dk_lt hop.dk hn y hy);have HF3:Hid (0<no→∀ y,ao=some y→y.block≠u1.heap.size):=fun hn y hy=>Nat.ne_of_lt (rowP_ltK hop.oc.row hn y hy);have HTH:Hid (Three bk):=hth;have H1s:Hid (Blk (u1.alloc (.cells #[zS,zI 0,zI 0,zI 0,zI 0,zS,zS] 41)) u1.heap.size #[zS,zI 0,zI 0,zI 0,zI 0,zS,zS] 41):=Blk.new u1 _ _;have hbw:Below w.heap.size w u1:=bel_step H0B.o hb1;have H1B:Hid (Below w.heap.size w (u1.alloc (.cells #[zS,zI 0,zI 0,zI 0,zI 0,zS,zS] 41))):=hbw.alloc hbw.size _;have hlB:w.heap.size≤u1.heap.size:=hbw.size;clear hal hop hth hb1 hbw HOP H0B H0d;go_wp2_with (first | (refine zql rfl rfl rfl rfl zqu41 (by simp [Value.oneCell']) H1s rfl ?_) | fail)
 intro W2 hU;have HST:Hid (St W2 u1.heap.size t pt lt ct a cap c ao no ko o l bk):=⟨hU.blk,⟨⟨came_updD HOP1.o.tc.ts hU HF1.o,HOP1.o.tc.wf⟩,dk_upd HOP1.o.dk hU HF2.o,came_upd HOP1.o.oc hU HF3.o,HOP1.o.shop⟩,HF1.o,HF3.o⟩
 have H2B:Hid (Below w.heap.size w W2):=hU.bel _ _ hlB H1B.o;clear hU HOP1 HF1 HF2 HF3 H1s H1B;generalize u1.heap.size=B at *;have HLD:Hid (Calls Tryz.prog 15 #[.agg #[.slice pt lt ct,zI t.ff,zI t.fb,zI t.db,zI t.al],.slice a 600 cap] W2 fun e w'=>LoadPost W2 t c e w'):=K5 W2 t pt lt ct a 600 cap c HST.o.is.tc HST.o.is.dk;have q0:W2.cell? ⟨B,0,none⟩=some (.slice pt lt ct):=HST.o.box.cell 0;have q1:W2.cell? ⟨B,1,none⟩=some (zI t.ff):=HST.o.box.cell 1;have q2:W2.cell? ⟨B,2,none⟩=some (zI t.fb):=HST.o.box.cell 2;have q3:W2.cell? ⟨B,3,none⟩=some (zI t.db):=HST.o.box.cell 3;have q4:W2.cell? ⟨B,4,none⟩=some (zI t.al):=HST.o.box.cell 4;have q5:W2.cell? ⟨B,5,none⟩=some (.slice a 600 cap):=HST.o.box.cell 5;have HSL:Hid (LoadIs t c bk 0):=HST.o.is.shop.load;have HNU:Hid (∀ x∈bk,Num x):=book_num HST.o.is.shop.book;have HSM:Hid (∀ x∈bk,x.so.length≤1000000):=book.book_small HST.o.is.shop.book;clear K0 K1 K2 K3 K4 K5 HST;go_wp2_with fail;refine HLD.o.mono ?_;rintro e u3 ⟨p,m,cp,ys,bk2,f,rfl,hli,hse,hm,hb3⟩;obtain ⟨rfl,rfl⟩:=HSL.o.one hli;have hm3:m=3:=by have:=hse.row.1;have:=hse.len;have:=HTH.o.1;omega
 have HSE:Hid (book.Sees u3 p m ys bk):=hse;have H3B:Hid (Below w.heap.size w (u3.alloc (.cells #[zS] 46))):=(bel_step H2B.o hb3).alloc (bel_step H2B.o hb3).size _;have H3b:Hid (Blk (u3.alloc (.cells #[zS] 46)) u3.heap.size #[zS] 46):=Blk.new u3 _ _;have hl3b:w.heap.size≤u3.heap.size:=(bel_step H2B.o hb3).size;have hne3:((m:Int) != 3)=false:=by rw [hm3];rfl
 have H3U:Hid (Below u3.heap.size u3 (u3.alloc (.cells #[zS] 46))):=(Below.refl _ _).alloc (Nat.le_refl _) _;have HM3:Hid (m=3):=hm3;have HWU:=shB H2B hb3;clear hli hse hm3 hb3 H2B HLD HSL q0 q1 q2 q3 q4 q5;go_wp2_with (first | (refine zql rfl rfl rfl rfl zqu46 (by simp [Value.oneCell']) H3b rfl ?_) | fail)
 intro W4 hU;have H4b:Hid (Blk W4 u3.heap.size #[.slice p m cp] 46):=hU.blk;have H4B:Hid (Below w.heap.size w W4):=hU.bel _ _ hl3b H3B.o;have H4U:Hid (Below u3.heap.size u3 W4):=hU.bel _ _ (Nat.le_refl _) H3U.o;clear hU H3B H3b H3U;have k0:=H4b.o.cell 0;simp at k0;go_wp2_with fail;clear k0;go_loopw [9] (fun v9 wr=>∃ (k:Nat),k≤3∧v9=zI (k:Int)∧Blk wr u3.heap.size #[.slice p m cp] 46∧Below u3.heap.size u3 wr) (fun v9 _=>3 - (intOf v9).toNat)
 case atStart=>exact ⟨0,Nat.zero_le _,rfl,H4b.o,H4U.o⟩
 case round=>
  obtain ⟨k,hk,rfl,hbk,hbu⟩:=hrel;have HBK:Hid (Blk wr u3.heap.size #[.slice p m cp] 46):=hbk;have HBU:Hid (Below u3.heap.size u3 wr):=hbu;clear hbk hbu H4b H4B H4U;by_cases hlt:k<3
  ·have hkm:k<m:=by have:=HM3.o;omega
   obtain ⟨b,off,rfl,lb,hc⟩:=HSE.o.row.2.resolve_left (by omega);have hky:k<ys.length:=by rw [HSE.o.row.1];exact hkm
   have hkb:k<bk.length:=by rw [← HSE.o.len];exact hky
   have hnm:=HSE.o.num k hky;have hso:=HSE.o.so k hky;have hme:=HTH.o.2 k hlt
   have hin:bk.getD k cm0∈bk:=by
    have q:bk.getD k cm0=bk[k]:=by simp [List.getD,List.getElem?_eq_getElem hkb]
    rw [q];exact List.getElem_mem _
   have hnu:=HNU.o _ hin;have hsm:=HSM.o _ hin;have hcs:∀ j,j<8→wr.cell? ⟨b,off+k*8+j,none⟩=(ys.getD k book.cu0).cs[j]?:=fun j hj=>(HBU.o.cell (p:=⟨b,off+k*8+j,none⟩) lb).trans (hc k j hkm hj);generalize ys.getD k book.cu0=y at *;generalize bk.getD k cm0=q at *;have c0:wr.cell? ⟨b,off+k*8,none⟩=some (zI y.me):=hcs 0 (by decide);have c1:wr.cell? ⟨b,off+k*8+1,none⟩=some (zI y.rv):=hcs 1 (by decide);have c2:wr.cell? ⟨b,off+k*8+2,none⟩=some (zI y.nx):=hcs 2 (by decide);have c3:wr.cell? ⟨b,off+k*8+3,none⟩=some (zI y.mo):=hcs 3 (by decide);have c4:wr.cell? ⟨b,off+k*8+4,none⟩=some (zI y.bo):=hcs 4 (by decide);have c5:wr.cell? ⟨b,off+k*8+5,none⟩=some (zI y.fr):=hcs 5 (by decide);have c6:wr.cell? ⟨b,off+k*8+6,none⟩=some (.slice y.dp y.dn y.dc):=hcs 6 (by decide);have c7:wr.cell? ⟨b,off+k*8+7,none⟩=some (.slice y.sp y.sn y.sc):=hcs 7 (by decide);obtain ⟨n1,n2,n3,n4,n5,n6⟩:=hnm;have hsl:y.sn=q.so.length:=hso.1.symm
   have HSO:Hid (∀ j,j<y.sn→∃ sb so,y.sp=some ⟨sb,so,none⟩∧sb<u3.heap.size∧u3.cell? ⟨sb,so+j*5,none⟩=some (zI ((j:Int)+1))∧∃ z,u3.cell? ⟨sb,so+j*5+4,none⟩=some (zI z)∧z≤y.rv):=fun j hj=>by
    rcases hso.2 with h0 | ⟨sb,so,e,ls,hcc⟩
    ·omega
    ·have h1:=hcc j 0 hj (by decide);have h2:=hcc j 4 hj (by decide);have h3:=hnu.2 j (by omega);refine ⟨sb,so,e,ls,?_,(q.so.getD j so0).rv,h2,?_⟩
     ·rw [← h3.1];exact h1
     ·rw [n2];exact h3.2
   have hne1:(y.me != (k:Int))=false:=by rw [n1,hme];simp
   have hne2:(y.nx != (y.sn:Int)+1)=false:=by rw [n3,hnu.1,hsl];simp
   have hsn:y.sn≤1000000:=by rw [hsl];exact hsm
   have hw1:IntKind.i64.wrap ((y.sn:Int)+1)=(y.sn:Int)+1:=by rw [IntKind.wrap_i64];omega
   have k0:wr.cell? ⟨u3.heap.size,0,none⟩=some (.slice (some ⟨b,off,none⟩) m cp):=HBK.o.cell 0;have H5y:Hid (Blk (wr.alloc (.cells #[zI 0,zI 0,zI 0,zI 0,zI 0,zI 0,zS,zS] 54)) wr.heap.size #[zI 0,zI 0,zI 0,zI 0,zI 0,zI 0,zS,zS] 54):=Blk.new wr _ _;have H5b:Hid (Blk (wr.alloc (.cells #[zI 0,zI 0,zI 0,zI 0,zI 0,zI 0,zS,zS] 54)) u3.heap.size #[.slice (some ⟨b,off,none⟩) m cp] 46):=HBK.o.alloc _;have H5U:Hid (Below u3.heap.size u3 (wr.alloc (.cells #[zI 0,zI 0,zI 0,zI 0,zI 0,zI 0,zS,zS] 54))):=HBU.o.alloc HBU.o.size _;have hl5:u3.heap.size<wr.heap.size:=HBK.o.lt;clear hcs hc hnu hin hso hme n1 n2 n3 n4 n5 n6 hsl hsm hkb hky HBK HBU;go_wp2_with (first | (refine zql rfl rfl rfl rfl zqu54 (by simp [Value.oneCell']) H5y rfl ?_) | fail)
   intro W6 hU;have H6y:Hid (Blk W6 wr.heap.size #[zI y.me,zI y.rv,zI y.nx,zI y.mo,zI y.bo,zI y.fr,.slice y.dp y.dn y.dc,.slice y.sp y.sn y.sc] 54):=hU.blk;have H6b:=shK hU H5b (by omega);have H6U:=shV hU H5U (by omega);have r0:W6.cell? ⟨wr.heap.size,0,none⟩=some (zI y.me):=H6y.o.cell 0;have r2:W6.cell? ⟨wr.heap.size,2,none⟩=some (zI y.nx):=H6y.o.cell 2;have r7:W6.cell? ⟨wr.heap.size,7,none⟩=some (.slice y.sp y.sn y.sc):=H6y.o.cell 7;clear hU H5y H5b H5U k0 c0 c1 c2 c3 c4 c5 c6 c7;generalize wr.heap.size=Y at *;go_wp2_with fail;clear r0 r2 r7 hne1 hne2;go_loopw [11] (fun v11 wq=>∃ (j:Nat),j≤y.sn∧v11=zI (j:Int)∧Blk wq Y #[zI y.me,zI y.rv,zI y.nx,zI y.mo,zI y.bo,zI y.fr,.slice y.dp y.dn y.dc,.slice y.sp y.sn y.sc] 54∧Blk wq u3.heap.size #[.slice (some ⟨b,off,none⟩) m cp] 46∧Below u3.heap.size u3 wq) (fun v11 _=>y.sn - (intOf v11).toNat)
   case atStart=>exact ⟨0,Nat.zero_le _,rfl,H6y.o,H6b.o,H6U.o⟩
   case round=>
    obtain ⟨j,hj,rfl,h7,h8,h9⟩:=hrel;have H7y:Hid (Blk wr Y #[zI y.me,zI y.rv,zI y.nx,zI y.mo,zI y.bo,zI y.fr,.slice y.dp y.dn y.dc,.slice y.sp y.sn y.sc] 54):=h7;have H7b:Hid (Blk wr u3.heap.size #[.slice (some ⟨b,off,none⟩) m cp] 46):=h8;have H7U:Hid (Below u3.heap.size u3 wr):=h9;clear h7 h8 h9 H6y H6b H6U;have r7:wr.cell? ⟨Y,7,none⟩=some (.slice y.sp y.sn y.sc):=H7y.o.cell 7;by_cases hjn:j<y.sn
    ·obtain ⟨sb,so,hsp,lsb,e0,z,e4,hz⟩:=HSO.o j hjn;have lY:Y<wr.heap.size:=H7y.o.lt;have r1:wr.cell? ⟨Y,1,none⟩=some (zI y.rv):=H7y.o.cell 1;have f0:wr.cell? ⟨sb,so+j*5,none⟩=some (zI ((j:Int)+1)):=(H7U.o.cell (p:=⟨sb,so+j*5,none⟩) lsb).trans e0;have f4:wr.cell? ⟨sb,so+j*5+4,none⟩=some (zI z):=(H7U.o.cell (p:=⟨sb,so+j*5+4,none⟩) lsb).trans e4;have ls2:sb<wr.heap.size:=Nat.lt_of_lt_of_le lsb H7U.o.size;have hw2:IntKind.i64.wrap ((j:Int)+1)=(j:Int)+1:=by rw [IntKind.wrap_i64];omega
     have hgz:decide (y.rv<z)=false:=by simp;omega
     rw [hsp] at r7;clear hsp e0 e4 lsb;go_wp2_with fail;refine wp_region_held_drew (S:=fun v=>Below wr.heap.size wr v) (by kernel_rfl) (Below.refl _ _).drew (fun hHeld=>?_);refine zqs 0 67 (.pointer (some ⟨Y,7,none⟩)) rfl rfl (by kernel_rfl) zid rfl (fun v hv=>by clear hv;go_simp) hHeld ?_;simp only [zq];refine zqt 1 68 (.slice (some ⟨sb,so,none⟩) y.sn y.sc) rfl rfl (by kernel_rfl) zid (Or.inl ⟨by rfl,fun v hv=>by have g7:=(hv.cell (p:=⟨Y,7,none⟩) lY).trans r7;clear hv;go_simp⟩) hHeld ?_;simp only [zq];refine zqs 2 69 (zI (j:Int)) rfl rfl (by kernel_rfl) zid rfl (fun v hv=>by clear hv;go_simp) hHeld ?_;simp only [zq];refine zqs 3 70 (.pointer (some ⟨sb,so+j*5,none⟩)) rfl rfl (by kernel_rfl) zid rfl (fun v hv=>by clear hv;go_simp) hHeld ?_;simp only [zq];refine zqs 4 71 (.pointer (some ⟨sb,so+j*5,none⟩)) rfl rfl (by kernel_rfl) zid rfl (fun v hv=>by clear hv;go_simp) hHeld ?_;simp only [zq];refine zqt 5 72 (zI ((j:Int)+1)) rfl rfl (by kernel_rfl) zid (Or.inl ⟨by rfl,fun v hv=>by have g0:=(hv.cell (p:=⟨sb,so+j*5,none⟩) ls2).trans f0;clear hv;go_simp⟩) hHeld ?_;simp only [zq];refine zqs 6 73 (zI (j:Int)) rfl rfl (by kernel_rfl) zid rfl (fun v hv=>by clear hv;go_simp) hHeld ?_;simp only [zq];refine zqs 7 74 (zI ((j:Int)+1)) rfl rfl (by kernel_rfl) zid rfl (fun v hv=>by clear hv;go_simp) hHeld ?_;simp only [zq];refine zqs 8 75 (.bool false) rfl rfl (by kernel_rfl) zid rfl (fun v hv=>by clear hv;go_simp) hHeld ?_;simp only [zq];refine zqs 9 76 (.bool false) rfl rfl (by kernel_rfl) zid rfl (fun v hv=>by clear hv;go_simp) hHeld ?_;simp only [zq];refine zqs 10 77 (.pointer (some ⟨Y,7,none⟩)) rfl rfl (by kernel_rfl) zid rfl (fun v hv=>by clear hv;go_simp) hHeld ?_;simp only [zq];refine zqt 11 78 (.slice (some ⟨sb,so,none⟩) y.sn y.sc) rfl rfl (by kernel_rfl) zid (Or.inl ⟨by rfl,fun v hv=>by have g7:=(hv.cell (p:=⟨Y,7,none⟩) lY).trans r7;clear hv;go_simp⟩) hHeld ?_;simp only [zq]
     refine zqs 12 79 (zI (j:Int)) rfl rfl (by kernel_rfl) zid rfl (fun v hv=>by clear hv;go_simp) hHeld ?_;simp only [zq];refine zqs 13 80 (.pointer (some ⟨sb,so+j*5,none⟩)) rfl rfl (by kernel_rfl) zid rfl (fun v hv=>by clear hv;go_simp) hHeld ?_;simp only [zq];refine zqs 14 81 (.pointer (some ⟨sb,so+j*5+4,none⟩)) rfl rfl (by kernel_rfl) zid rfl (fun v hv=>by clear hv;go_simp) hHeld ?_;simp only [zq];refine zqt 15 82 (zI z) rfl rfl (by kernel_rfl) zid (Or.inl ⟨by rfl,fun v hv=>by have g4:=(hv.cell (p:=⟨sb,so+j*5+4,none⟩) ls2).trans f4;clear hv;go_simp⟩) hHeld ?_;simp only [zq];refine zqs 16 83 (.pointer (some ⟨Y,0,none⟩)) rfl rfl (by kernel_rfl) zid rfl (fun v hv=>by clear hv;go_simp) hHeld ?_;simp only [zq];refine zqs 17 84 (.pointer (some ⟨Y,1,none⟩)) rfl rfl (by kernel_rfl) zid rfl (fun v hv=>by clear hv;go_simp) hHeld ?_;simp only [zq];refine zqt 18 85 (zI y.rv) rfl rfl (by kernel_rfl) zid (Or.inl ⟨by rfl,fun v hv=>by have g1:=(hv.cell (p:=⟨Y,1,none⟩) lY).trans r1;clear hv;go_simp⟩) hHeld ?_;simp only [zq];refine zqs 19 86 (.bool false) rfl rfl (by kernel_rfl) zid rfl (fun v hv=>by clear hv;go_simp) hHeld ?_;simp only [zq];refine zqs 20 87 (.bool false) rfl rfl (by kernel_rfl) zid rfl (fun v hv=>by clear hv;go_simp) hHeld ?_;simp only [zq];refine wpAnyH_done (by kernel_rfl) ?_ _;clear hHeld r1 r7 f0 f4;have H8y:Hid (Blk wr.drew Y #[zI y.me,zI y.rv,zI y.nx,zI y.mo,zI y.bo,zI y.fr,.slice y.dp y.dn y.dc,.slice y.sp y.sn y.sc] 54):=H7y.o.drew 1;have H8b:Hid (Blk wr.drew u3.heap.size #[.slice (some ⟨b,off,none⟩) m cp] 46):=H7b.o.drew 1;have H8U:Hid (Below u3.heap.size u3 wr.drew):=H7U.o.drew;go_wp2_with fail;go_roundw
     case rel=>exact ⟨j+1,by omega,by go_num,H8y.o,H8b.o,H8U.o⟩
     case measure=>simp [intOf];omega
    ·go_wp2_with fail;go_roundw
     case rel=>exact ⟨k+1,by omega,by go_num,H7b.o,H7U.o⟩
     case measure=>simp [intOf];omega
  ·have HFN:Hid (Below w.heap.size w wr):=HWU.o.trans (HBU.o.mono HWU.o.size);go_wp2_with fail;go_ret;exact ⟨rfl,HFN.o⟩
open book (Sees ECame)
open acc (TCame ACame)
theorem owe_ev {a b:Ac} {me:Int} {q:tar.Du} (h:acc.OweIs a q b 0) (ha:a.me=me):EMay (chaE me q.a q.b):=by
 rcases h with ⟨_,_,h⟩ | ⟨_,_,_,h⟩ | ⟨_,_,_,_,h⟩ | ⟨hm,hd,_⟩
 ·cases h
 ·cases h
 ·cases h
 ·exact ⟨by rw [← ha];exact hm.2.1,.inr (.inl ⟨rfl,rfl,rfl,rfl,rfl,rfl,rfl,rfl,rfl,rfl,hd⟩)⟩
theorem pcha (t:Tm) (pt:Option Addr) (lt ct:Nat) (a:Option Addr) (n cap:Nat) (c:List Int) (me:Int) (q:tar.Du) (w:World) (ht:TCame w t pt lt ct) (h:Dk w a n cap c) (hq:(Lit.int .i64 q.a).wf=true∧(Lit.int .i64 q.b).wf=true):Calls Tryz.prog 42 #[.agg #[.slice pt lt ct,zI t.ff,zI t.fb,zI t.db,zI t.al],.slice a n cap,zI me,.agg #[zI q.a,zI q.b]] w fun e w'=>WrGot w (ChaIs t c me q.a q.b) e w':=by
 have HQ:Hid ((Lit.int .i64 q.a).wf=true∧(Lit.int .i64 q.b).wf=true):=hq;clear hq;have HC:Hid (∀ W,Below w.heap.size w W→Dk W a n cap c):=fun W hW=>h.below hW;have HT:Hid (∀ W,Below w.heap.size w W→TCame W t pt lt ct):=fun W hW=>ht.below hW;clear h ht;obtain ⟨W0,HWW,H0t,H0d,H0B,hs0⟩:=sh2 w #[.slice pt lt ct,zI t.ff,zI t.fb,zI t.db,zI t.al] 24 #[zI q.a,zI q.b] 70;go_enter Tryz.func42,Tryz.ntmps42;go_upto_region 1 with fail
 rw [HWW.o];clear HWW;have HOP:Hid (Calls Tryz.prog 23 #[.agg #[.slice pt lt ct,zI t.ff,zI t.fb,zI t.db,zI t.al],.slice a n cap] W0 fun e w'=>OpnP W0 t a n cap c e w'):=popen t pt lt ct a n cap c W0 (HT.o _ H0B.o) (HC.o _ H0B.o)
 go_wp2_with (first
  | (refine zqw rfl rfl rfl H0t zqu24 ?_)
  | (refine zqw rfl rfl rfl H0d zqu70 ?_)
  | fail)
 refine HOP.o.mono ?_;rintro e w1 (⟨f,rfl,h0,hli,hb1⟩ | ⟨p2,m2,c2,xs,bk,l,rfl,hli,hkp,hse,hm2,hb1⟩)
 ·have d0:(f != 0)=true:=by simpa using h0
  have H1t:=shN H0t hb1;have H1d:=shN H0d hb1;have H1B:=shB H0B hb1;have hsw1:W0.heap.size≤w1.heap.size:=hb1.size;clear hb1 H0t H0d H0B;have HLI:Hid (f≠0∧LoadIs t c [] f):=⟨h0,hli⟩
  clear h0 hli HOP;obtain ⟨W2,HWW,H2s,HBB,hsW2⟩:=sh1 w1 #[zS,zS,zI 0] 87;have H2t:=shN H1t HBB.o;have H2d:=shN H1d HBB.o;have H2B:=shB H1B HBB.o;go_upto_region 2 with fail
  clear H1t H1d H1B;rw [HWW.o];clear HWW HBB;have HV:Hid (ChaIs t c me q.a q.b [] f):=⟨[],f,HLI.o.2,.inl ⟨HLI.o.1,rfl,rfl⟩⟩
  clear HLI;go_wp2_with fail;go_ret2;exact ⟨none,0,0,[],f,rfl,HV.o,⟨rfl,.inl rfl⟩,(fun x hx=>by cases hx),Nat.le_refl _,Nat.zero_le _,H2B.o⟩
 ·have HLI:Hid (LoadIs t c bk 0):=hli;have HKI:Hid (KeptIs c l 0):=hkp;have HSE:Hid (Sees w1 p2 m2 xs bk):=hse;have H1t:=shN H0t hb1;have H1d:=shN H0d hb1;have H1B:=shB H0B hb1;have hsw1:W0.heap.size≤w1.heap.size:=hb1.size;clear hb1 H0t H0d H0B;have HL2:Hid (l.length≤120):=load_len hli hkp;clear hli hkp hse HOP;have H2X:Hid (Below w1.heap.size w1 w1):=Below.refl _ _;obtain ⟨W2,HWW,H3s,H3X,hsW2⟩:=sh1 w1 #[.slice p2 m2 c2,.slice a n cap,zI (l.length:Int)] 87;have H3t:=shN H1t H3X.o;have H3d:=shN H1d H3X.o;have H3B:=shB H1B H3X.o;go_upto_region 2 with fail
  clear H1t H1d H2X H1B;rw [HWW.o];clear HWW;have HSW:Hid (Sees W2 p2 m2 xs bk):=HSE.o.below H3X.o;clear HSE;have HCU:Hid (Calls Tryz.prog 24 #[.agg #[.slice p2 m2 c2,.slice a n cap,zI (l.length:Int)],zI me] W2 fun e w'=>CusP W2 bk me e w'):=pcust p2 m2 c2 xs bk a n cap _ me W2 HSW.o hm2
  go_wp2_with (first
   | (refine zqw rfl rfl rfl H3t zqu24 ?_)
   | (refine zqw rfl rfl rfl H3d zqu70 ?_)
   | (refine zqw rfl rfl rfl H3s zqu87 ?_)
   | fail)
  refine HCU.o.mono ?_;rintro e w3 ⟨hb3,⟨rfl,hno⟩ | ⟨k,dp,dn,dc,sp,sn,sc,rfl,hft,hkb,hcm,hso⟩⟩
  ·have HNO:Hid (NoneAt bk me):=hno;clear hno HCU HSW;have H4t:=shN H3t hb3;have H4d:=shN H3d hb3;have H4s:=shN H3s hb3;have H4B:=shB H3B hb3;have hsw3:W2.heap.size≤w3.heap.size:=hb3.size;clear hb3 H3t H3d H3s H3B;obtain ⟨W4,HWW,H5q,HBB,hsW4⟩:=sh1 w3 #[zI 0,zI 0,zI 0,zI 0,zI 0,zI 0,zS,zS] 54;have H5t:=shN H4t HBB.o;have H5d:=shN H4d HBB.o;have H5s:=shN H4s HBB.o;have H5B:=shB H4B HBB.o;go_upto_region 5 with fail
   clear H4t H4d H4s H4B;rw [HWW.o];clear HWW HBB;have HV:Hid (ChaIs t c me q.a q.b [] 18):=⟨bk,0,HLI.o,.inr (.inl ⟨rfl,HNO.o,rfl,rfl⟩)⟩
   go_wp2_with fail;go_ret2;exact ⟨none,0,0,[],18,rfl,HV.o,⟨rfl,.inl rfl⟩,(fun x hx=>by cases hx),Nat.le_refl _,Nat.zero_le _,H5B.o⟩
  ·have HFT:Hid (FirstAt bk me k):=hft;have HWF:Hid (acc.wf6 (bk.getD k cm0).a):=load_wf HLI.o _ (book.getD_in hkb);have HCM:Hid (tar.Came W2 dp dn dc (bk.getD k cm0).a.ds):=hcm;have HSO:Hid (book.RowS W2 sp sn (bk.getD k cm0).so):=hso;have HK3:Hid (Below W2.heap.size W2 w3):=hb3;clear hft hkb hcm hso HCU HSW;generalize hy:(bk.getD k cm0).a=y at *;have HY:Hid ((bk.getD k cm0).a=y):=hy;clear hy;have H4t:=shN H3t hb3;have H4d:=shN H3d hb3;have H4s:=shN H3s hb3;have H4B:=shB H3B hb3;have hsw3:W2.heap.size≤w3.heap.size:=hb3.size;clear hb3 H3t H3d H3s H3B;have H5t:Hid (Blk (w3.alloc (.cells #[zI y.me,zI y.rv,zI y.nx,zI y.mo,zI y.bo,zI y.fr,.slice dp dn dc,.slice sp sn sc] 54)) (w.heap.size) #[.slice pt lt ct,zI t.ff,zI t.fb,zI t.db,zI t.al] 24):=H4t.o.alloc _;have H5d:Hid (Blk (w3.alloc (.cells #[zI y.me,zI y.rv,zI y.nx,zI y.mo,zI y.bo,zI y.fr,.slice dp dn dc,.slice sp sn sc] 54)) (w.heap.size+1) #[zI q.a,zI q.b] 70):=H4d.o.alloc _;have H5s:Hid (Blk (w3.alloc (.cells #[zI y.me,zI y.rv,zI y.nx,zI y.mo,zI y.bo,zI y.fr,.slice dp dn dc,.slice sp sn sc] 54)) (w1.heap.size) #[.slice p2 m2 c2,.slice a n cap,zI (l.length:Int)] 87):=H4s.o.alloc _;have H5Y:Hid (Below W2.heap.size W2 (w3.alloc (.cells #[zI y.me,zI y.rv,zI y.nx,zI y.mo,zI y.bo,zI y.fr,.slice dp dn dc,.slice sp sn sc] 54))):=HK3.o.alloc HK3.o.size _;have H5q:Hid (Blk (w3.alloc (.cells #[zI y.me,zI y.rv,zI y.nx,zI y.mo,zI y.bo,zI y.fr,.slice dp dn dc,.slice sp sn sc] 54)) (w3.heap.size) #[zI y.me,zI y.rv,zI y.nx,zI y.mo,zI y.bo,zI y.fr,.slice dp dn dc,.slice sp sn sc] 54):=Blk.new w3 _ _;have H5B:Hid (Below w.heap.size w (w3.alloc (.cells #[zI y.me,zI y.rv,zI y.nx,zI y.mo,zI y.bo,zI y.fr,.slice dp dn dc,.slice sp sn sc] 54))):=H4B.o.alloc H4B.o.size _;have hsW4:w3.heap.size<(w3.alloc (.cells #[zI y.me,zI y.rv,zI y.nx,zI y.mo,zI y.bo,zI y.fr,.slice dp dn dc,.slice sp sn sc] 54)).heap.size:=(Blk.new w3 #[zI y.me,zI y.rv,zI y.nx,zI y.mo,zI y.bo,zI y.fr,.slice dp dn dc,.slice sp sn sc] 54).lt
   go_upto_region 5 with fail
   clear H4t H4d H4s HK3 H4B;generalize (w3.alloc (.cells #[zI y.me,zI y.rv,zI y.nx,zI y.mo,zI y.bo,zI y.fr,.slice dp dn dc,.slice sp sn sc] 54))=W4 at *;have HOW:Hid (Calls Tryz.prog 75 #[.agg #[zI y.me,zI y.rv,zI y.nx,zI y.mo,zI y.bo,zI y.fr,.slice dp dn dc],.agg #[zI q.a,zI q.b]] W4 fun e w'=>acc.APost W4 (acc.OweIs y q) e w'):=acc.kowe W4 y dp dn dc q ⟨HCM.o.below H5Y.o,HWF.o⟩ HQ.o;obtain ⟨qq0,qq1,qq2,qq3,qq4,qq5,qq6,-⟩:=scl8 H5q
   go_wp2_with (first
    | (refine zqw rfl rfl rfl H5t zqu24 ?_)
    | (refine zqw rfl rfl rfl H5d zqu70 ?_)
    | (refine zqw rfl rfl rfl H5s zqu87 ?_)
    | (refine zqw rfl rfl rfl H5q zqu54 ?_)
    | fail)
   refine HOW.o.mono ?_;rintro e w4 ⟨b,p4,n4,c4,h4,rfl,hoi,hfr,hb4⟩;have H6t:=shN H5t hb4;have H6d:=shN H5d hb4;have H6s:=shN H5s hb4;have H6q:=shN H5q hb4;have H6B:=shB H5B hb4;have hsw4:W4.heap.size≤w4.heap.size:=hb4.size;clear hb4 H5t H5d H5s H5q H5B;clear qq0 qq1 qq2 qq3 qq4 qq5 qq6;have HOI:Hid (acc.OweIs y q b h4):=hoi;clear hoi hfr HOW HCM HSO;unfold acc.Ac.v acc.Ac.cs;obtain ⟨W5,HWW,H7b,HBB,hsW5⟩:=sh1 w4 #[zI b.me,zI b.rv,zI b.nx,zI b.mo,zI b.bo,zI b.fr,.slice p4 n4 c4] 51;have H7t:=shN H6t HBB.o;have H7d:=shN H6d HBB.o;have H7s:=shN H6s HBB.o;have H7q:=shN H6q HBB.o;have H7B:=shB H6B HBB.o;go_upto_region 8 with fail
   clear H6t H6d H6s H6q H6B;rw [HWW.o];clear HWW HBB;by_cases h5:h4=0
   ·subst h5;have HEV:Hid (EMay (chaE me q.a q.b)):=owe_ev HOI.o (by rw [← HY.o];exact HFT.o.2.1);have HKE:Hid (Calls Tryz.prog 61 #[.agg #[.slice p2 m2 c2,.slice a n cap,zI (l.length:Int)],.agg #[zI 5,zI me,zI 0,zI 0,zI 0,zI 0,zI 0,zI 0,zI 0,zI 0,zI 0,zI q.a,zI q.b]] W5 fun e w'=>WrGot W5 (KeepIs c (chaE me q.a q.b)) e w'):=pkeep p2 m2 c2 a n cap c l (chaE me q.a q.b) W5 (HC.o _ H7B.o) HKI.o HL2.o HEV.o
    go_wp2_with (first
     | (refine zqw rfl rfl rfl H7t zqu24 ?_)
     | (refine zqw rfl rfl rfl H7d zqu70 ?_)
     | (refine zqw rfl rfl rfl H7s zqu87 ?_)
     | (refine zqw rfl rfl rfl H7q zqu54 ?_)
     | (refine zqw rfl rfl rfl H7b zqu51 ?_)
     | fail)
    refine HKE.o.mono ?_;rintro e w5 ⟨p3,m3,c3,ls,f3,rfl,hke,hrow,hnew,hle,hsm,hb5⟩;have H8t:=shN H7t hb5;have H8d:=shN H7d hb5;have H8s:=shN H7s hb5;have H8q:=shN H7q hb5;have H8b:=shN H7b hb5;have H8B:=shB H7B hb5;have hsw5:W5.heap.size≤w5.heap.size:=hb5.size;clear hb5 H7t H7d H7s H7q H7b H7B;have HV:Hid (ChaIs t c me q.a q.b ls f3):=⟨bk,0,HLI.o,.inr (.inr ⟨rfl,k,b,0,HFT.o,by rw [HY.o];exact HOI.o,.inr ⟨rfl,hke⟩⟩)⟩
    have HRW:Hid (cell.RowW w5 p3 m3 ls):=hrow;have HNW:Hid (∀ x,p3=some x→w.heap.size≤x.block):=fun x hx=>Nat.le_trans (by omega) (hnew x hx);clear hke hrow hnew HKE;go_wp2_with fail;go_ret2;exact ⟨p3,m3,c3,ls,f3,rfl,HV.o,HRW.o,HNW.o,hle,hsm,H8B.o⟩
   ·have d5:(h4 != 0)=true:=by simpa using h5
    have HV:Hid (ChaIs t c me q.a q.b [] h4):=⟨bk,0,HLI.o,.inr (.inr ⟨rfl,k,b,h4,HFT.o,by rw [HY.o];exact HOI.o,.inl ⟨h5,rfl,rfl⟩⟩)⟩
    clear h5;go_wp2_with fail;go_ret2;exact ⟨none,0,0,[],h4,rfl,HV.o,⟨rfl,.inl rfl⟩,(fun x hx=>by cases hx),Nat.le_refl _,Nat.zero_le _,H7B.o⟩
theorem kcha:KvCha:=fun W t pt lt ct a n cap c me q ht hd _ h1 h2=>pcha t pt lt ct a n cap c me q W ht hd ⟨h1,h2⟩
theorem preg (t:Tm) (pt:Option Addr) (lt ct:Nat) (a:Option Addr) (n cap:Nat) (c:List Int) (me:Int) (w:World) (ht:TCame w t pt lt ct) (h:Dk w a n cap c):Calls Tryz.prog 34 #[.agg #[.slice pt lt ct,zI t.ff,zI t.fb,zI t.db,zI t.al],.slice a n cap,zI me] w fun e w'=>WrGot w (RegIs t c me) e w':=by
 have HC:Hid (∀ W,Below w.heap.size w W→Dk W a n cap c):=fun W hW=>h.below hW;have HT:Hid (∀ W,Below w.heap.size w W→TCame W t pt lt ct):=fun W hW=>ht.below hW;clear h ht;obtain ⟨W0,HWW,H0t,H0B,hs0⟩:=sh1 w #[.slice pt lt ct,zI t.ff,zI t.fb,zI t.db,zI t.al] 24;go_enter Tryz.func34,Tryz.ntmps34;go_upto_region 1 with fail
 rw [HWW.o];clear HWW;have HOP:Hid (Calls Tryz.prog 23 #[.agg #[.slice pt lt ct,zI t.ff,zI t.fb,zI t.db,zI t.al],.slice a n cap] W0 fun e w'=>OpnP W0 t a n cap c e w'):=popen t pt lt ct a n cap c W0 (HT.o _ H0B.o) (HC.o _ H0B.o)
 go_wp2_with (first
  | (refine zqw rfl rfl rfl H0t zqu24 ?_)
  | fail)
 refine HOP.o.mono ?_;rintro e w1 (⟨f,rfl,h0,hli,hb1⟩ | ⟨p2,m2,c2,xs,bk,l,rfl,hli,hkp,hse,hm2,hb1⟩)
 ·have d0:(f != 0)=true:=by simpa using h0
  have H1t:=shN H0t hb1;have H1B:=shB H0B hb1;have hsw1:W0.heap.size≤w1.heap.size:=hb1.size;clear hb1 H0t H0B;have HLI:Hid (f≠0∧LoadIs t c [] f):=⟨h0,hli⟩
  clear h0 hli HOP;obtain ⟨W2,HWW,H2s,HBB,hsW2⟩:=sh1 w1 #[zS,zS,zI 0] 87;have H2t:=shN H1t HBB.o;have H2B:=shB H1B HBB.o;go_upto_region 2 with fail
  clear H1t H1B;rw [HWW.o];clear HWW HBB;have HV:Hid (RegIs t c me [] f):=⟨[],f,HLI.o.2,.inl ⟨HLI.o.1,rfl,rfl⟩⟩
  clear HLI;go_wp2_with fail;go_ret2;exact ⟨none,0,0,[],f,rfl,HV.o,⟨rfl,.inl rfl⟩,(fun x hx=>by cases hx),Nat.le_refl _,Nat.zero_le _,H2B.o⟩
 ·have HLI:Hid (LoadIs t c bk 0):=hli;have HKI:Hid (KeptIs c l 0):=hkp;have HSE:Hid (Sees w1 p2 m2 xs bk):=hse;have H1t:=shN H0t hb1;have H1B:=shB H0B hb1;have hsw1:W0.heap.size≤w1.heap.size:=hb1.size;clear hb1 H0t H0B;have HL2:Hid (l.length≤120):=load_len hli hkp;clear hli hkp hse HOP;have H2X:Hid (Below w1.heap.size w1 w1):=Below.refl _ _;obtain ⟨W2,HWW,H3s,H3X,hsW2⟩:=sh1 w1 #[.slice p2 m2 c2,.slice a n cap,zI (l.length:Int)] 87;have H3t:=shN H1t H3X.o;have H3B:=shB H1B H3X.o;go_upto_region 2 with fail
  clear H1t H2X H1B;rw [HWW.o];clear HWW;have HSW:Hid (Sees W2 p2 m2 xs bk):=HSE.o.below H3X.o;clear HSE;by_cases h1:me<0
  ·have d1:decide (me<0)=true:=decide_eq_true h1;have HV:Hid (RegIs t c me [] 2):=⟨bk,0,HLI.o,.inr (.inl ⟨rfl,by omega,rfl,rfl⟩)⟩
   clear h1;go_wp2_with fail;go_ret2;exact ⟨none,0,0,[],2,rfl,HV.o,⟨rfl,.inl rfl⟩,(fun x hx=>by cases hx),Nat.le_refl _,Nat.zero_le _,H3B.o⟩
  ·have d1:decide (me<0)=false:=decide_eq_false h1;by_cases h2:50≤me
   ·have d2:decide (50≤me)=true:=decide_eq_true h2;have HV:Hid (RegIs t c me [] 2):=⟨bk,0,HLI.o,.inr (.inl ⟨rfl,by omega,rfl,rfl⟩)⟩
    clear h1 h2;go_wp2_with fail;go_ret2;exact ⟨none,0,0,[],2,rfl,HV.o,⟨rfl,.inl rfl⟩,(fun x hx=>by cases hx),Nat.le_refl _,Nat.zero_le _,H3B.o⟩
   ·have d2:decide (50≤me)=false:=decide_eq_false h2;have HME:Hid (0≤me∧me≤49):=(by omega:0≤me∧me≤49)
    clear h1 h2;have HCU:Hid (Calls Tryz.prog 24 #[.agg #[.slice p2 m2 c2,.slice a n cap,zI (l.length:Int)],zI me] W2 fun e w'=>CusP W2 bk me e w'):=pcust p2 m2 c2 xs bk a n cap _ me W2 HSW.o hm2
    go_wp2_with (first
     | (refine zqw rfl rfl rfl H3t zqu24 ?_)
     | (refine zqw rfl rfl rfl H3s zqu87 ?_)
     | fail)
    refine HCU.o.mono ?_;rintro e w3 ⟨hb3,⟨rfl,hno⟩ | ⟨k,dp,dn,dc,sp,sn,sc,rfl,hft,hkb,hcm,hso⟩⟩
    ·have HNO:Hid (NoneAt bk me):=hno;clear hno HCU HSW;have H4t:=shN H3t hb3;have H4s:=shN H3s hb3;have H4B:=shB H3B hb3;have hsw3:W2.heap.size≤w3.heap.size:=hb3.size;clear hb3 H3t H3s H3B;obtain ⟨W4,HWW,H5q,HBB,hsW4⟩:=sh1 w3 #[zI 0,zI 0,zI 0,zI 0,zI 0,zI 0,zS,zS] 54;have H5t:=shN H4t HBB.o;have H5s:=shN H4s HBB.o;have H5B:=shB H4B HBB.o;go_upto_region 7 with fail
     clear H4t H4s H4B;rw [HWW.o];clear HWW HBB;have HEV:Hid (EMay (regE me)):=⟨HME.o,.inl ⟨rfl,rfl,rfl,rfl,rfl,rfl,rfl,rfl,rfl,rfl,rfl,rfl⟩⟩
     have HKE:Hid (Calls Tryz.prog 61 #[.agg #[.slice p2 m2 c2,.slice a n cap,zI (l.length:Int)],.agg #[zI 1,zI me,zI 0,zI 0,zI 0,zI 0,zI 0,zI 0,zI 0,zI 0,zI 0,zI 0,zI 0]] W4 fun e w'=>WrGot W4 (KeepIs c (regE me)) e w'):=pkeep p2 m2 c2 a n cap c l (regE me) W4 (HC.o _ H5B.o) HKI.o HL2.o HEV.o
     go_wp2_with (first
      | (refine zqw rfl rfl rfl H5t zqu24 ?_)
      | (refine zqw rfl rfl rfl H5s zqu87 ?_)
      | (refine zqw rfl rfl rfl H5q zqu54 ?_)
      | fail)
     refine HKE.o.mono ?_;rintro e w5 ⟨p3,m3,c3,ls,f3,rfl,hke,hrow,hnew,hle,hsm,hb5⟩;have H6t:=shN H5t hb5;have H6s:=shN H5s hb5;have H6q:=shN H5q hb5;have H6B:=shB H5B hb5;have hsw5:W4.heap.size≤w5.heap.size:=hb5.size;clear hb5 H5t H5s H5q H5B;have HV:Hid (RegIs t c me ls f3):=⟨bk,0,HLI.o,.inr (.inr (.inr ⟨rfl,HME.o,HNO.o,hke⟩))⟩
     have HRW:Hid (cell.RowW w5 p3 m3 ls):=hrow;have HNW:Hid (∀ x,p3=some x→w.heap.size≤x.block):=fun x hx=>Nat.le_trans (by omega) (hnew x hx);clear hke hrow hnew HKE;go_wp2_with fail;go_ret2;exact ⟨p3,m3,c3,ls,f3,rfl,HV.o,HRW.o,HNW.o,hle,hsm,H6B.o⟩
    ·have HFT:Hid (FirstAt bk me k):=hft;have HWF:Hid (acc.wf6 (bk.getD k cm0).a):=load_wf HLI.o _ (book.getD_in hkb);have HCM:Hid (tar.Came W2 dp dn dc (bk.getD k cm0).a.ds):=hcm;have HSO:Hid (book.RowS W2 sp sn (bk.getD k cm0).so):=hso;have HK3:Hid (Below W2.heap.size W2 w3):=hb3;clear hft hkb hcm hso HCU HSW;generalize hy:(bk.getD k cm0).a=y at *;have HY:Hid ((bk.getD k cm0).a=y):=hy;clear hy;have H4t:=shN H3t hb3;have H4s:=shN H3s hb3;have H4B:=shB H3B hb3;have hsw3:W2.heap.size≤w3.heap.size:=hb3.size;clear hb3 H3t H3s H3B;have H5t:Hid (Blk (w3.alloc (.cells #[zI y.me,zI y.rv,zI y.nx,zI y.mo,zI y.bo,zI y.fr,.slice dp dn dc,.slice sp sn sc] 54)) (w.heap.size) #[.slice pt lt ct,zI t.ff,zI t.fb,zI t.db,zI t.al] 24):=H4t.o.alloc _;have H5s:Hid (Blk (w3.alloc (.cells #[zI y.me,zI y.rv,zI y.nx,zI y.mo,zI y.bo,zI y.fr,.slice dp dn dc,.slice sp sn sc] 54)) (w1.heap.size) #[.slice p2 m2 c2,.slice a n cap,zI (l.length:Int)] 87):=H4s.o.alloc _;have H5Y:Hid (Below W2.heap.size W2 (w3.alloc (.cells #[zI y.me,zI y.rv,zI y.nx,zI y.mo,zI y.bo,zI y.fr,.slice dp dn dc,.slice sp sn sc] 54))):=HK3.o.alloc HK3.o.size _;have H5q:Hid (Blk (w3.alloc (.cells #[zI y.me,zI y.rv,zI y.nx,zI y.mo,zI y.bo,zI y.fr,.slice dp dn dc,.slice sp sn sc] 54)) (w3.heap.size) #[zI y.me,zI y.rv,zI y.nx,zI y.mo,zI y.bo,zI y.fr,.slice dp dn dc,.slice sp sn sc] 54):=Blk.new w3 _ _;have H5B:Hid (Below w.heap.size w (w3.alloc (.cells #[zI y.me,zI y.rv,zI y.nx,zI y.mo,zI y.bo,zI y.fr,.slice dp dn dc,.slice sp sn sc] 54))):=H4B.o.alloc H4B.o.size _;have hsW4:w3.heap.size<(w3.alloc (.cells #[zI y.me,zI y.rv,zI y.nx,zI y.mo,zI y.bo,zI y.fr,.slice dp dn dc,.slice sp sn sc] 54)).heap.size:=(Blk.new w3 #[zI y.me,zI y.rv,zI y.nx,zI y.mo,zI y.bo,zI y.fr,.slice dp dn dc,.slice sp sn sc] 54).lt;go_upto_region 7 with fail
     clear H4t H4s HK3 H4B;generalize (w3.alloc (.cells #[zI y.me,zI y.rv,zI y.nx,zI y.mo,zI y.bo,zI y.fr,.slice dp dn dc,.slice sp sn sc] 54))=W4 at *;have HV:Hid (RegIs t c me [] 21):=⟨bk,0,HLI.o,.inr (.inr (.inl ⟨rfl,HME.o,HFT.o.some,rfl,rfl⟩))⟩
     go_wp2_with fail;go_ret2;exact ⟨none,0,0,[],21,rfl,HV.o,⟨rfl,.inl rfl⟩,(fun x hx=>by cases hx),Nat.le_refl _,Nat.zero_le _,H5B.o⟩
theorem kreg:KvReg:=fun W t pt lt ct a n cap c me ht hd _=>preg t pt lt ct a n cap c me W ht hd
end vnd
end Go.Proofs.YtnpblpbohcegoaaGreatDoor
