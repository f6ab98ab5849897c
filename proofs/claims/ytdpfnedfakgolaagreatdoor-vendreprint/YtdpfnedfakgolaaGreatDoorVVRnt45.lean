import Derived.Test.YtdpfnedfakgolaaGreatDoorVVRnt41
import Derived.Test.YtdpfnedfakgolaaGreatDoorVVRnt42
set_option linter.unusedVariables false
set_option linter.unusedSimpArgs false
set_option maxHeartbeats 4000000
set_option maxRecDepth 100000
namespace Go.Proofs.YtdpfnedfakgolaaGreatDoor
namespace vnd
open disk (RepIs AppIs)
open book (Ev ev0 EMay evL evOf EncIs DecIs Cm cm0 So so0 BookIs Sees ECame FirstAt NoneAt)
open acc (Ac Tm Bi TCame ACame)
open cell (Wr RowU)
open Go.RowKit
theorem owe_ev {a b:Ac} {me:Int} {q:tar.Du} (h:acc.OweIs a q b 0) (ha:a.me=me):EMay (chaE me q.a q.b):=by
 rcases h with ⟨_,_,h⟩ | ⟨_,_,_,h⟩ | ⟨_,_,_,_,h⟩ | ⟨hm,hd,_⟩
 ·cases h
 ·cases h
 ·cases h
 ·exact ⟨by rw [← ha];exact hm.2.1,.inr (.inl ⟨rfl,rfl,rfl,rfl,rfl,rfl,rfl,rfl,rfl,rfl,hd⟩)⟩
theorem pcha (t:Tm) (pt:Option Addr) (lt ct:Nat) (a:Option Addr) (n cap:Nat) (c:List Int) (me:Int) (q:tar.Du) (w:World) (ht:TCame w t pt lt ct) (h:Dk w a n cap c) (hq:(Lit.int .i64 q.a).wf=true∧(Lit.int .i64 q.b).wf=true):Calls Tryz.prog 19 #[.agg #[.slice pt lt ct,zI t.ff,zI t.fb,zI t.db,zI t.al],.slice a n cap,zI me,.agg #[zI q.a,zI q.b]] w fun e w'=>WrGot w (ChaIs t c me q.a q.b) e w':=by
 have HQ:Hid ((Lit.int .i64 q.a).wf=true∧(Lit.int .i64 q.b).wf=true):=hq;clear hq;have HC:Hid (∀ W,Below w.heap.size w W→Dk W a n cap c):=fun W hW=>h.below hW;have HT:Hid (∀ W,Below w.heap.size w W→TCame W t pt lt ct):=fun W hW=>ht.below hW;clear h ht;obtain ⟨W0,HWW,H0t,H0d,H0B,hs0⟩:=sh2 w #[.slice pt lt ct,zI t.ff,zI t.fb,zI t.db,zI t.al] 30 #[zI q.a,zI q.b] 83;go_enter Tryz.func19,Tryz.ntmps19;go_upto_region 1 with fail
 rw [HWW.o];clear HWW;have HOP:Hid (Calls Tryz.prog 18 #[.agg #[.slice pt lt ct,zI t.ff,zI t.fb,zI t.db,zI t.al],.slice a n cap] W0 fun e w'=>OpnP W0 t a n cap c e w'):=popen t pt lt ct a n cap c W0 (HT.o _ H0B.o) (HC.o _ H0B.o)
 go_wp2_with (first
  | (refine zqw rfl rfl rfl H0t zqu30 ?_)
  | (refine zqw rfl rfl rfl H0d zqu83 ?_)
  | fail)
 refine HOP.o.mono ?_;rintro e w1 (⟨f,rfl,h0,hli,hb1⟩ | ⟨p2,m2,c2,xs,bk,l,rfl,hli,hkp,hse,hm2,hb1⟩)
 ·have d0:(f != 0)=true:=by simpa using h0
  have H1t:=shN H0t hb1;have H1d:=shN H0d hb1;have H1B:=shB H0B hb1;have hsw1:W0.heap.size≤w1.heap.size:=hb1.size;clear hb1 H0t H0d H0B;have HLI:Hid (f≠0∧LoadIs t c [] f):=⟨h0,hli⟩
  clear h0 hli HOP;obtain ⟨W2,HWW,H2s,HBB,hsW2⟩:=sh1 w1 #[zS,zS,zI 0] 78;have H2t:=shN H1t HBB.o;have H2d:=shN H1d HBB.o;have H2B:=shB H1B HBB.o;go_upto_region 2 with fail
  clear H1t H1d H1B;rw [HWW.o];clear HWW HBB;have HV:Hid (ChaIs t c me q.a q.b [] f):=⟨[],f,HLI.o.2,.inl ⟨HLI.o.1,rfl,rfl⟩⟩
  clear HLI;go_wp2_with fail;go_ret2;exact ⟨none,0,0,[],f,rfl,HV.o,⟨rfl,.inl rfl⟩,(fun x hx=>by cases hx),Nat.le_refl _,Nat.zero_le _,H2B.o⟩
 ·have HLI:Hid (LoadIs t c bk 0):=hli;have HKI:Hid (KeptIs c l 0):=hkp;have HSE:Hid (Sees w1 p2 m2 xs bk):=hse;have H1t:=shN H0t hb1;have H1d:=shN H0d hb1;have H1B:=shB H0B hb1;have hsw1:W0.heap.size≤w1.heap.size:=hb1.size;clear hb1 H0t H0d H0B;have HL2:Hid (l.length≤120):=load_len hli hkp;clear hli hkp hse HOP;have H2X:Hid (Below w1.heap.size w1 w1):=Below.refl _ _;obtain ⟨W2,HWW,H3s,H3X,hsW2⟩:=sh1 w1 #[.slice p2 m2 c2,.slice a n cap,zI (l.length:Int)] 78;have H3t:=shN H1t H3X.o;have H3d:=shN H1d H3X.o;have H3B:=shB H1B H3X.o;go_upto_region 2 with fail
  clear H1t H1d H2X H1B;rw [HWW.o];clear HWW;have HSW:Hid (Sees W2 p2 m2 xs bk):=HSE.o.below H3X.o;clear HSE;have HCU:Hid (Calls Tryz.prog 34 #[.agg #[.slice p2 m2 c2,.slice a n cap,zI (l.length:Int)],zI me] W2 fun e w'=>CusP W2 bk me e w'):=pcust p2 m2 c2 xs bk a n cap _ me W2 HSW.o hm2
  go_wp2_with (first
   | (refine zqw rfl rfl rfl H3t zqu30 ?_)
   | (refine zqw rfl rfl rfl H3d zqu83 ?_)
   | (refine zqw rfl rfl rfl H3s zqu78 ?_)
   | fail)
  refine HCU.o.mono ?_;rintro e w3 ⟨hb3,⟨rfl,hno⟩ | ⟨k,dp,dn,dc,sp,sn,sc,rfl,hft,hkb,hcm,hso⟩⟩
  ·have HNO:Hid (NoneAt bk me):=hno;clear hno HCU HSW;have H4t:=shN H3t hb3;have H4d:=shN H3d hb3;have H4s:=shN H3s hb3;have H4B:=shB H3B hb3;have hsw3:W2.heap.size≤w3.heap.size:=hb3.size;clear hb3 H3t H3d H3s H3B;obtain ⟨W4,HWW,H5q,HBB,hsW4⟩:=sh1 w3 #[zI 0,zI 0,zI 0,zI 0,zI 0,zI 0,zS,zS] 64;have H5t:=shN H4t HBB.o;have H5d:=shN H4d HBB.o;have H5s:=shN H4s HBB.o;have H5B:=shB H4B HBB.o;go_upto_region 5 with fail
   clear H4t H4d H4s H4B;rw [HWW.o];clear HWW HBB;have HV:Hid (ChaIs t c me q.a q.b [] 18):=⟨bk,0,HLI.o,.inr (.inl ⟨rfl,HNO.o,rfl,rfl⟩)⟩
   go_wp2_with fail;go_ret2;exact ⟨none,0,0,[],18,rfl,HV.o,⟨rfl,.inl rfl⟩,(fun x hx=>by cases hx),Nat.le_refl _,Nat.zero_le _,H5B.o⟩
  ·have HFT:Hid (FirstAt bk me k):=hft;have HWF:Hid (acc.wf6 (bk.getD k cm0).a):=load_wf HLI.o _ (book.getD_in hkb);have HCM:Hid (tar.Came W2 dp dn dc (bk.getD k cm0).a.ds):=hcm;have HSO:Hid (book.RowS W2 sp sn (bk.getD k cm0).so):=hso;have HK3:Hid (Below W2.heap.size W2 w3):=hb3;clear hft hkb hcm hso HCU HSW;generalize hy:(bk.getD k cm0).a=y at *;have HY:Hid ((bk.getD k cm0).a=y):=hy;clear hy;have H4t:=shN H3t hb3;have H4d:=shN H3d hb3;have H4s:=shN H3s hb3;have H4B:=shB H3B hb3;have hsw3:W2.heap.size≤w3.heap.size:=hb3.size;clear hb3 H3t H3d H3s H3B;have H5t:Hid (Blk (w3.alloc (.cells #[zI y.me,zI y.rv,zI y.nx,zI y.mo,zI y.bo,zI y.fr,.slice dp dn dc,.slice sp sn sc] 64)) (w.heap.size) #[.slice pt lt ct,zI t.ff,zI t.fb,zI t.db,zI t.al] 30):=H4t.o.alloc _;have H5d:Hid (Blk (w3.alloc (.cells #[zI y.me,zI y.rv,zI y.nx,zI y.mo,zI y.bo,zI y.fr,.slice dp dn dc,.slice sp sn sc] 64)) (w.heap.size+1) #[zI q.a,zI q.b] 83):=H4d.o.alloc _;have H5s:Hid (Blk (w3.alloc (.cells #[zI y.me,zI y.rv,zI y.nx,zI y.mo,zI y.bo,zI y.fr,.slice dp dn dc,.slice sp sn sc] 64)) (w1.heap.size) #[.slice p2 m2 c2,.slice a n cap,zI (l.length:Int)] 78):=H4s.o.alloc _;have H5Y:Hid (Below W2.heap.size W2 (w3.alloc (.cells #[zI y.me,zI y.rv,zI y.nx,zI y.mo,zI y.bo,zI y.fr,.slice dp dn dc,.slice sp sn sc] 64))):=HK3.o.alloc HK3.o.size _;have H5q:Hid (Blk (w3.alloc (.cells #[zI y.me,zI y.rv,zI y.nx,zI y.mo,zI y.bo,zI y.fr,.slice dp dn dc,.slice sp sn sc] 64)) (w3.heap.size) #[zI y.me,zI y.rv,zI y.nx,zI y.mo,zI y.bo,zI y.fr,.slice dp dn dc,.slice sp sn sc] 64):=Blk.new w3 _ _;have H5B:Hid (Below w.heap.size w (w3.alloc (.cells #[zI y.me,zI y.rv,zI y.nx,zI y.mo,zI y.bo,zI y.fr,.slice dp dn dc,.slice sp sn sc] 64))):=H4B.o.alloc H4B.o.size _;have hsW4:w3.heap.size<(w3.alloc (.cells #[zI y.me,zI y.rv,zI y.nx,zI y.mo,zI y.bo,zI y.fr,.slice dp dn dc,.slice sp sn sc] 64)).heap.size:=(Blk.new w3 #[zI y.me,zI y.rv,zI y.nx,zI y.mo,zI y.bo,zI y.fr,.slice dp dn dc,.slice sp sn sc] 64).lt
   go_upto_region 5 with fail
   clear H4t H4d H4s HK3 H4B;generalize (w3.alloc (.cells #[zI y.me,zI y.rv,zI y.nx,zI y.mo,zI y.bo,zI y.fr,.slice dp dn dc,.slice sp sn sc] 64))=W4 at *;have HOW:Hid (Calls Tryz.prog 46 #[.agg #[zI y.me,zI y.rv,zI y.nx,zI y.mo,zI y.bo,zI y.fr,.slice dp dn dc],.agg #[zI q.a,zI q.b]] W4 fun e w'=>acc.APost W4 (acc.OweIs y q) e w'):=acc.kowe W4 y dp dn dc q ⟨HCM.o.below H5Y.o,HWF.o⟩ HQ.o;obtain ⟨qq0,qq1,qq2,qq3,qq4,qq5,qq6,-⟩:=scl8 H5q
   go_wp2_with (first
    | (refine zqw rfl rfl rfl H5t zqu30 ?_)
    | (refine zqw rfl rfl rfl H5d zqu83 ?_)
    | (refine zqw rfl rfl rfl H5s zqu78 ?_)
    | (refine zqw rfl rfl rfl H5q zqu64 ?_)
    | fail)
   refine HOW.o.mono ?_;rintro e w4 ⟨b,p4,n4,c4,h4,rfl,hoi,hfr,hb4⟩;have H6t:=shN H5t hb4;have H6d:=shN H5d hb4;have H6s:=shN H5s hb4;have H6q:=shN H5q hb4;have H6B:=shB H5B hb4;have hsw4:W4.heap.size≤w4.heap.size:=hb4.size;clear hb4 H5t H5d H5s H5q H5B;clear qq0 qq1 qq2 qq3 qq4 qq5 qq6;have HOI:Hid (acc.OweIs y q b h4):=hoi;clear hoi hfr HOW HCM HSO;unfold acc.Ac.v acc.Ac.cs;obtain ⟨W5,HWW,H7b,HBB,hsW5⟩:=sh1 w4 #[zI b.me,zI b.rv,zI b.nx,zI b.mo,zI b.bo,zI b.fr,.slice p4 n4 c4] 61;have H7t:=shN H6t HBB.o;have H7d:=shN H6d HBB.o;have H7s:=shN H6s HBB.o;have H7q:=shN H6q HBB.o;have H7B:=shB H6B HBB.o;go_upto_region 8 with fail
   clear H6t H6d H6s H6q H6B;rw [HWW.o];clear HWW HBB;by_cases h5:h4=0
   ·subst h5;have HEV:Hid (EMay (chaE me q.a q.b)):=owe_ev HOI.o (by rw [← HY.o];exact HFT.o.2.1);have HKE:Hid (Calls Tryz.prog 43 #[.agg #[.slice p2 m2 c2,.slice a n cap,zI (l.length:Int)],.agg #[zI 5,zI me,zI 0,zI 0,zI 0,zI 0,zI 0,zI 0,zI 0,zI 0,zI 0,zI q.a,zI q.b]] W5 fun e w'=>WrGot W5 (KeepIs c (chaE me q.a q.b)) e w'):=pkeep p2 m2 c2 a n cap c l (chaE me q.a q.b) W5 (HC.o _ H7B.o) HKI.o HL2.o HEV.o
    go_wp2_with (first
     | (refine zqw rfl rfl rfl H7t zqu30 ?_)
     | (refine zqw rfl rfl rfl H7d zqu83 ?_)
     | (refine zqw rfl rfl rfl H7s zqu78 ?_)
     | (refine zqw rfl rfl rfl H7q zqu64 ?_)
     | (refine zqw rfl rfl rfl H7b zqu61 ?_)
     | fail)
    refine HKE.o.mono ?_;rintro e w5 ⟨p3,m3,c3,ls,f3,rfl,hke,hrow,hnew,hle,hsm,hb5⟩;have H8t:=shN H7t hb5;have H8d:=shN H7d hb5;have H8s:=shN H7s hb5;have H8q:=shN H7q hb5;have H8b:=shN H7b hb5;have H8B:=shB H7B hb5;have hsw5:W5.heap.size≤w5.heap.size:=hb5.size;clear hb5 H7t H7d H7s H7q H7b H7B;have HV:Hid (ChaIs t c me q.a q.b ls f3):=⟨bk,0,HLI.o,.inr (.inr ⟨rfl,k,b,0,HFT.o,by rw [HY.o];exact HOI.o,.inr ⟨rfl,hke⟩⟩)⟩
    have HRW:Hid (cell.RowW w5 p3 m3 ls):=hrow;have HNW:Hid (∀ x,p3=some x→w.heap.size≤x.block):=fun x hx=>Nat.le_trans (by omega) (hnew x hx);clear hke hrow hnew HKE;go_wp2_with fail;go_ret2;exact ⟨p3,m3,c3,ls,f3,rfl,HV.o,HRW.o,HNW.o,hle,hsm,H8B.o⟩
   ·have d5:(h4 != 0)=true:=by simpa using h5
    have HV:Hid (ChaIs t c me q.a q.b [] h4):=⟨bk,0,HLI.o,.inr (.inr ⟨rfl,k,b,h4,HFT.o,by rw [HY.o];exact HOI.o,.inl ⟨h5,rfl,rfl⟩⟩)⟩
    clear h5;go_wp2_with fail;go_ret2;exact ⟨none,0,0,[],h4,rfl,HV.o,⟨rfl,.inl rfl⟩,(fun x hx=>by cases hx),Nat.le_refl _,Nat.zero_le _,H7B.o⟩
theorem kcha:KvCha:=fun W t pt lt ct a n cap c me q ht hd _ h1 h2=>pcha t pt lt ct a n cap c me q W ht hd ⟨h1,h2⟩
open book (Tells)
open acc (SellIs GrantIs RekeyIs)
open ora (Pr IssueIs)
open token (Tok TTab fmtL)
open rcp (Rc rc0)
open cell (RowW)
theorem load_smallP {t:Tm} {c:List Int} {bk:List Cm} {f:Int} (h:LoadIs t c bk f):∀ x∈bk,x.so.length≤1000000:=by
 obtain ⟨l,e,_,⟨_,rfl,_⟩ | ⟨_,a,q⟩⟩:=h
 ·intro x hx;cases hx
 ·exact book.book_small q
def FoundS (l:List So) (id x:Int):Prop:=(∃ k:Nat,k<l.length∧(l.getD k so0).id=id∧(∀ j,j<k→(l.getD j so0).id≠id)∧x=(k:Int))∨((∀ j,j<l.length→(l.getD j so0).id≠id)∧x=-1)
theorem asked_sold (B:Nat) (id xi xc xa xt xr:Int) (W:World) (hc:W.cell? ⟨B,0,none⟩=some (zI id)) (hB:B<W.heap.size) :
  Calls Tryz.prog 36 #[.agg #[zI xi,zI xc,zI xa,zI xt,zI xr],.pointer (some ⟨B,0,none⟩)] W fun e w'=>e = .returned (.bool (xi == id))∧Below W.heap.size W w':=by
 have hc2:(W.alloc (.cells #[zI xi,zI xc,zI xa,zI xt,zI xr] 114)).cell? ⟨B,0,none⟩=some (zI id):=by rw [World.cell?_alloc_lt W _ _ hB];exact hc
 have HB:Hid (Below W.heap.size W (W.alloc (.cells #[zI xi,zI xc,zI xa,zI xt,zI xr] 114))):=(Below.refl _ _).alloc (Nat.le_refl _) _;clear hc hB;go_enter Tryz.func36,Tryz.ntmps36;go_wp2_with fail;go_ret;exact ⟨rfl,HB.o⟩
theorem index_sold (B n cap:Nat) (id:Int) (a:Option Addr) (l:List So) (w:World) (hc:w.cell? ⟨B,0,none⟩=some (zI id)) (hr:book.RowS w a n l) (hn:n≤2000000) :
  Calls Tryz.prog 35 #[.slice a n cap,.func (.func 36) #[] #[.pointer (some ⟨B,0,none⟩)]] w fun e w'=>∃ x,e = .returned (zI x)∧FoundS l id x∧Below w.heap.size w w':=by
 have hB:=World.block_lt_of_cell? w _ hc
 have HC:Hid (∀ wr,Below w.heap.size w wr→∀ (xi xc xa xt xr:Int),Calls Tryz.prog 36 #[.agg #[zI xi,zI xc,zI xa,zI xt,zI xr],.pointer (some ⟨B,0,none⟩)] wr fun e w'=>e = .returned (.bool (xi == id))∧Below wr.heap.size wr w'):=fun wr hb xi xc xa xt xr=>
  asked_sold B id xi xc xa xt xr wr ((hb.cell (p:=⟨B,0,none⟩) hB).trans hc) (Nat.lt_of_lt_of_le hB hb.size)
 have HR:Hid (book.RowS w a n l):=hr;have HL:Hid (l.length=n):=hr.1;clear hc hB hr;go_enter Tryz.func35,Tryz.ntmps35;go_wp2_with fail;go_loopw [8] (fun i wr=>∃ k:Nat,k≤n∧i=zI (k:Int)∧(∀ j,j<k→(l.getD j so0).id≠id)∧Below w.heap.size w wr) (fun i _=>n - (intOf i).toNat)
 case atStart=>exact ⟨0,Nat.zero_le _,rfl,(fun j hj=>absurd hj (Nat.not_lt_zero _)),Below.refl _ _⟩
 case round=>
  obtain ⟨k,hk,rfl,hal,hb⟩:=hrel;have HA:Hid (∀ j,j<k→(l.getD j so0).id≠id):=hal;have HB:Hid (Below w.heap.size w wr):=hb;clear hal hb;by_cases hlt:k<n
  ·obtain ⟨b2,o2,rfl,l2,hc2⟩:=HR.o.2.resolve_left (by omega);have hce:∀ j,j<5→wr.cell? ⟨b2,o2+k*5+j,none⟩=(l.getD k so0).cs[j]?:=fun j hj=>(HB.o.cell (p:=⟨b2,o2+k*5+j,none⟩) l2).trans (hc2 k j hlt hj)
   have HME:Hid (∀ z,z=(l.getD k so0).id→(z=id→FoundS l id (k:Int))∧(z≠id→∀ j,j<k+1→(l.getD j so0).id≠id)):=fun z hz=>⟨fun e=> .inl ⟨k,by rw [HL.o];exact hlt,by rw [← hz];exact e,HA.o,rfl⟩,fun e j hj=>by
    by_cases q:j=k
    ·subst q;rw [← hz];exact e
    ·exact HA.o j (by omega)⟩
   clear hc2 l2;obtain ⟨⟨xi,xc,xa,xt,xr⟩,hx⟩:∃ x,x=l.getD k so0:=⟨_,rfl⟩
   have HMX:=HME.o xi (by rw [← hx]);have HY:Hid (xi=id→FoundS l id (k:Int)):=HMX.1;have HNO:Hid (xi≠id→∀ j,j<k+1→(l.getD j so0).id≠id):=HMX.2;rw [← hx] at hce;clear hx HME HMX;have c0:wr.cell? ⟨b2,o2+k*5,none⟩=some (zI xi):=hce 0 (by decide);have c1:wr.cell? ⟨b2,o2+k*5+1,none⟩=some (zI xc):=hce 1 (by decide);have c2:wr.cell? ⟨b2,o2+k*5+2,none⟩=some (zI xa):=hce 2 (by decide);have c3:wr.cell? ⟨b2,o2+k*5+3,none⟩=some (zI xt):=hce 3 (by decide);have c4:wr.cell? ⟨b2,o2+k*5+4,none⟩=some (zI xr):=hce 4 (by decide);clear hce;have hcall:=HC.o wr HB.o xi xc xa xt xr;clear HC;by_cases he:xi=id
   ·have HF:Hid (FoundS l id (k:Int)):=HY.o he;rw [show (xi == id)=true by simpa using he] at hcall;have HCL:Hid (Calls Tryz.prog 36 #[.agg #[zI xi,zI xc,zI xa,zI xt,zI xr],.pointer (some ⟨B,0,none⟩)] wr fun e w'=>e = .returned (.bool true)∧Below wr.heap.size wr w'):=hcall;clear hcall he;go_wp2_with fail;refine HCL.o.mono ?_;rintro e w' ⟨rfl,hb'⟩;have HB':Hid (Below w.heap.size w w'):=bel_step HB.o hb';clear hb' c0 c1 c2 c3 c4;go_wp2_with fail;go_ret;exact ⟨(k:Int),rfl,HF.o,HB'.o⟩
   ·have HF:Hid (∀ j,j<k+1→(l.getD j so0).id≠id):=HNO.o he;rw [show (xi == id)=false by simpa using he] at hcall;have HCL:Hid (Calls Tryz.prog 36 #[.agg #[zI xi,zI xc,zI xa,zI xt,zI xr],.pointer (some ⟨B,0,none⟩)] wr fun e w'=>e = .returned (.bool false)∧Below wr.heap.size wr w'):=hcall;clear hcall he;go_wp2_with fail;refine HCL.o.mono ?_;rintro e w' ⟨rfl,hb'⟩;have HB':Hid (Below w.heap.size w w'):=bel_step HB.o hb';clear hb' c0 c1 c2 c3 c4;go_wp2_with fail;go_roundw
    case rel=>exact ⟨k+1,by omega,by go_num,HF.o,HB'.o⟩
    case measure=>simp [intOf];omega
  ·obtain rfl:k=n:=by omega
   have HFA:Hid (FoundS l id (-1)):= .inr ⟨fun j hj=>HA.o j (by rw [← HL.o];exact hj),rfl⟩;go_wp2_with fail;go_ret;exact ⟨-1,rfl,HFA.o,HB.o⟩
theorem prpr (t:Tm) (pt:Option Addr) (lt ct:Nat) (a:Option Addr) (n cap:Nat) (c:List Int) (me id:Int) (w:World) (tt:TTab w) (ht:TCame w t pt lt ct) (h:Dk w a n cap c):Calls Tryz.prog 13 #[.agg #[.slice pt lt ct,zI t.ff,zI t.fb,zI t.db,zI t.al],.slice a n cap,zI me,zI id] w fun e w'=>RprPost w (RepIsP t c me id) e w':=by
 have HTT:Hid (∀ W,Below w.heap.size w W→TTab W):=fun W hW=>tt.below hW;clear tt;have HC:Hid (∀ W,Below w.heap.size w W→Dk W a n cap c):=fun W hW=>h.below hW;have HT:Hid (∀ W,Below w.heap.size w W→TCame W t pt lt ct):=fun W hW=>ht.below hW;clear h ht;obtain ⟨W0,HWW,H0t,H0i,H0B,hs0⟩:=sh2 w #[.slice pt lt ct,zI t.ff,zI t.fb,zI t.db,zI t.al] 30 #[zI id] 3;go_enter Tryz.func13,Tryz.ntmps13;go_upto_region 1 with fail
 rw [HWW.o];clear HWW;have HOP:Hid (Calls Tryz.prog 18 #[.agg #[.slice pt lt ct,zI t.ff,zI t.fb,zI t.db,zI t.al],.slice a n cap] W0 fun e w'=>OpnP W0 t a n cap c e w'):=popen t pt lt ct a n cap c W0 (HT.o _ H0B.o) (HC.o _ H0B.o)
 go_wp2_with (first
  | (refine zqw rfl rfl rfl H0t zqu30 ?_)
  | (refine wp_whole rfl 3 _ rfl _ rfl 3 _ _ H0i.o Tryz.underlying3 rfl (by kernel_rfl) ?_)
  | fail)
 refine HOP.o.mono ?_;rintro e w1 (⟨f,rfl,h0,hli,hb1⟩ | ⟨p2,m2,c2,xs,bk,l,rfl,hli,hkp,hse,hm2,hb1⟩)
 ·have d0:(f != 0)=true:=by simpa using h0
  have H1t:=shN H0t hb1;have H1i:=shN H0i hb1;have H1B:=shB H0B hb1;have hsw1:W0.heap.size≤w1.heap.size:=hb1.size;clear hb1 H0t H0i H0B;have HLI:Hid (f≠0∧LoadIs t c [] f):=⟨h0,hli⟩
  clear h0 hli HOP;obtain ⟨W2,HWW,H2s,HBB,hsW2⟩:=sh1 w1 #[zS,zS,zI 0] 78;have H2t:=shN H1t HBB.o;have H2i:=shN H1i HBB.o;have H2B:=shB H1B HBB.o;go_upto_region 2 with fail
  clear H1t H1i H1B;rw [HWW.o];clear HWW HBB;have HV:Hid (RepIsP t c me id [] f):=⟨[],f,HLI.o.2,.inl ⟨HLI.o.1,rfl,rfl⟩⟩
  clear HLI;go_wp2_with fail;go_ret2;exact ⟨[],f,rfl,HV.o,H2B.o⟩
 ·have HLI:Hid (LoadIs t c bk 0):=hli;have HKI:Hid (KeptIs c l 0):=hkp;have HSE:Hid (Sees w1 p2 m2 xs bk):=hse;have H1t:=shN H0t hb1;have H1i:=shN H0i hb1;have H1B:=shB H0B hb1;have hsw1:W0.heap.size≤w1.heap.size:=hb1.size;clear hb1 H0t H0i H0B;have HL2:Hid (l.length≤120):=load_len hli hkp;clear hli hkp hse HOP;have H2X:Hid (Below w1.heap.size w1 w1):=Below.refl _ _;obtain ⟨W2,HWW,H3s,H3X,hsW2⟩:=sh1 w1 #[.slice p2 m2 c2,.slice a n cap,zI (l.length:Int)] 78;have H3t:=shN H1t H3X.o;have H3i:=shN H1i H3X.o;have H3B:=shB H1B H3X.o;go_upto_region 2 with fail
  clear H1t H1i H2X H1B;rw [HWW.o];clear HWW;have HSW:Hid (Sees W2 p2 m2 xs bk):=HSE.o.below H3X.o;clear HSE;have HCU:Hid (Calls Tryz.prog 34 #[.agg #[.slice p2 m2 c2,.slice a n cap,zI (l.length:Int)],zI me] W2 fun e w'=>CusP W2 bk me e w'):=pcust p2 m2 c2 xs bk a n cap _ me W2 HSW.o hm2
  go_wp2_with (first
   | (refine zqw rfl rfl rfl H3t zqu30 ?_)
   | (refine wp_whole rfl 3 _ rfl _ rfl 3 _ _ H3i.o Tryz.underlying3 rfl (by kernel_rfl) ?_)
   | (refine zqw rfl rfl rfl H3s zqu78 ?_)
   | fail)
  refine HCU.o.mono ?_;rintro e w3 ⟨hb3,⟨rfl,hno⟩ | ⟨k,dp,dn,dc,sp,sn,sc,rfl,hft,hkb,hcm,hso⟩⟩
  ·have HNO:Hid (NoneAt bk me):=hno;clear hno HCU HSW;have H4t:=shN H3t hb3;have H4i:=shN H3i hb3;have H4s:=shN H3s hb3;have H4B:=shB H3B hb3;have hsw3:W2.heap.size≤w3.heap.size:=hb3.size;clear hb3 H3t H3i H3s H3B;obtain ⟨W4,HWW,H5q,HBB,hsW4⟩:=sh1 w3 #[zI 0,zI 0,zI 0,zI 0,zI 0,zI 0,zS,zS] 64;have H5t:=shN H4t HBB.o;have H5i:=shN H4i HBB.o;have H5s:=shN H4s HBB.o;have H5B:=shB H4B HBB.o;go_upto_region 5 with fail
   clear H4t H4i H4s H4B;rw [HWW.o];clear HWW HBB;have HV:Hid (RepIsP t c me id [] 18):=⟨bk,0,HLI.o,.inr (.inl ⟨rfl,HNO.o,rfl,rfl⟩)⟩
   go_wp2_with fail;go_ret2;exact ⟨[],18,rfl,HV.o,H5B.o⟩
  ·have HFT:Hid (FirstAt bk me k):=hft;have hmem:=book.getD_in hkb;have hsm:=load_smallP HLI.o _ hmem;have HSD:Hid (∀ j,j<(bk.getD k cm0).so.length→SoldOk ((bk.getD k cm0).so.getD j so0)):=load_sold HLI.o _ hmem;have hsn:sn≤1000000:=by rw [← hso.1];exact hsm
   have HSO:Hid (book.RowS W2 sp sn (bk.getD k cm0).so):=hso;have HK3:Hid (Below W2.heap.size W2 w3):=hb3;clear hft hkb hcm hso hmem hsm HCU HSW;generalize hy:(bk.getD k cm0).a=y at *;clear hy;have HSE:Hid (∀ S,S=(bk.getD k cm0).so→∀ s f,((∀ j,j<S.length→(S.getD j so0).id≠id)∧s=[]∧f=22)∨(∃ j,j<S.length∧(S.getD j so0).id=id∧(∀ i,i<j→(S.getD i so0).id≠id)∧f=0∧s=fmtL (97*(Tok.mk (S.getD j so0).cl.toNat id.toNat (S.getD j so0).am.toNat (S.getD j so0).tg.toNat).num))→RepIsP t c me id s f):=fun S hS s f hh=>⟨bk,0,HLI.o,.inr (.inr ⟨rfl,k,HFT.o,by rw [← hS];exact hh⟩)⟩;generalize hso:(bk.getD k cm0).so=S at *;have HS1:=HSE.o S rfl;have HS2:Hid (∀ s f,((∀ j,j<S.length→(S.getD j so0).id≠id)∧s=[]∧f=22)∨(∃ j,j<S.length∧(S.getD j so0).id=id∧(∀ i,i<j→(S.getD i so0).id≠id)∧f=0∧s=fmtL (97*(Tok.mk (S.getD j so0).cl.toNat id.toNat (S.getD j so0).am.toNat (S.getD j so0).tg.toNat).num))→RepIsP t c me id s f):=HS1;clear HS1 HSE hso HFT HLI;have H4t:=shN H3t hb3;have H4i:=shN H3i hb3;have H4s:=shN H3s hb3;have H4B:=shB H3B hb3;have hsw3:W2.heap.size≤w3.heap.size:=hb3.size;clear hb3 H3t H3i H3s H3B;have H5t:Hid (Blk (w3.alloc (.cells #[zI y.me,zI y.rv,zI y.nx,zI y.mo,zI y.bo,zI y.fr,.slice dp dn dc,.slice sp sn sc] 64)) (w.heap.size) #[.slice pt lt ct,zI t.ff,zI t.fb,zI t.db,zI t.al] 30):=H4t.o.alloc _;have H5i:Hid (Blk (w3.alloc (.cells #[zI y.me,zI y.rv,zI y.nx,zI y.mo,zI y.bo,zI y.fr,.slice dp dn dc,.slice sp sn sc] 64)) (w.heap.size+1) #[zI id] 3):=H4i.o.alloc _;have H5s:Hid (Blk (w3.alloc (.cells #[zI y.me,zI y.rv,zI y.nx,zI y.mo,zI y.bo,zI y.fr,.slice dp dn dc,.slice sp sn sc] 64)) (w1.heap.size) #[.slice p2 m2 c2,.slice a n cap,zI (l.length:Int)] 78):=H4s.o.alloc _;have H5Y:Hid (Below W2.heap.size W2 (w3.alloc (.cells #[zI y.me,zI y.rv,zI y.nx,zI y.mo,zI y.bo,zI y.fr,.slice dp dn dc,.slice sp sn sc] 64))):=HK3.o.alloc HK3.o.size _
   have H5q:Hid (Blk (w3.alloc (.cells #[zI y.me,zI y.rv,zI y.nx,zI y.mo,zI y.bo,zI y.fr,.slice dp dn dc,.slice sp sn sc] 64)) (w3.heap.size) #[zI y.me,zI y.rv,zI y.nx,zI y.mo,zI y.bo,zI y.fr,.slice dp dn dc,.slice sp sn sc] 64):=Blk.new w3 _ _;have H5B:Hid (Below w.heap.size w (w3.alloc (.cells #[zI y.me,zI y.rv,zI y.nx,zI y.mo,zI y.bo,zI y.fr,.slice dp dn dc,.slice sp sn sc] 64))):=H4B.o.alloc H4B.o.size _;have hsW4:w3.heap.size<(w3.alloc (.cells #[zI y.me,zI y.rv,zI y.nx,zI y.mo,zI y.bo,zI y.fr,.slice dp dn dc,.slice sp sn sc] 64)).heap.size:=(Blk.new w3 #[zI y.me,zI y.rv,zI y.nx,zI y.mo,zI y.bo,zI y.fr,.slice dp dn dc,.slice sp sn sc] 64).lt;go_upto_region 5 with fail
   clear H4t H4i H4s HK3 H4B;generalize (w3.alloc (.cells #[zI y.me,zI y.rv,zI y.nx,zI y.mo,zI y.bo,zI y.fr,.slice dp dn dc,.slice sp sn sc] 64))=W4 at *;have hmf:∀ (fn:Fn) (first cap:Array Value) (w:World),(Instr.makeFunc fn first cap).run Tryz.prog w = .ok (.func fn first cap) w:=fun _ _ _ _=>rfl;have HIX:Hid (Calls Tryz.prog 35 #[.slice sp sn sc,.func (.func 36) #[] #[.pointer (some ⟨w.heap.size+1,0,none⟩)]] W4 fun e w'=>∃ x,e = .returned (zI x)∧FoundS S id x∧Below W4.heap.size W4 w'):=index_sold (w.heap.size+1) sn sc id sp S W4 (H5i.o.cell 0) (HSO.o.below H5Y.o) (by omega);have qq7:W4.cell? ⟨w3.heap.size,7,none⟩=some (.slice sp sn sc):=H5q.o.cell 7
   go_wp2_with (first
    | (refine zqw rfl rfl rfl H5t zqu30 ?_)
    | (refine wp_whole rfl 3 _ rfl _ rfl 3 _ _ H5i.o Tryz.underlying3 rfl (by kernel_rfl) ?_)
    | (refine zqw rfl rfl rfl H5s zqu78 ?_)
    | (refine zqw rfl rfl rfl H5q zqu64 ?_)
    | fail)
   clear qq7;refine HIX.o.mono ?_;rintro e w4 ⟨x,rfl,hfx,hb4⟩;have H6t:=shN H5t hb4;have H6i:=shN H5i hb4;have H6s:=shN H5s hb4;have H6q:=shN H5q hb4;have H6Y:=shB H5Y hb4;have H6B:=shB H5B hb4;have hsw4:W4.heap.size≤w4.heap.size:=hb4.size;clear hb4 H5t H5i H5s H5q H5Y H5B;clear HIX hmf;rcases hfx with ⟨j,hj,hid,hbe,rfl⟩ | ⟨hall,rfl⟩
   ·have HJ:Hid (j<S.length∧(S.getD j so0).id=id∧∀ i,i<j→(S.getD i so0).id≠id):=⟨hj,hid,hbe⟩
    have dj:decide ((j:Int)<0)=false:=decide_eq_false (by omega);have hjn:j<sn:=by rw [← HSO.o.1];exact hj
    have hok:=HSD.o j hj;have htk:=sold_tok hok;have HTK:Hid ((Tok.mk (S.getD j so0).cl.toNat (S.getD j so0).id.toNat (S.getD j so0).am.toNat (S.getD j so0).tg.toNat).ok∧(Tok.mk (S.getD j so0).cl.toNat (S.getD j so0).id.toNat (S.getD j so0).am.toNat (S.getD j so0).tg.toNat).v = .agg #[zI (S.getD j so0).cl,zI (S.getD j so0).id,zI (S.getD j so0).am,zI (S.getD j so0).tg]):=htk;obtain ⟨b2,o2,rfl,l2,hc2⟩:=(HSO.o.below H6Y.o).2.resolve_left (by omega);have hce:∀ m,m<5→w4.cell? ⟨b2,o2+j*5+m,none⟩=(S.getD j so0).cs[m]?:=fun m hm=>hc2 j m hjn hm;have e0:w4.cell? ⟨b2,o2+j*5,none⟩=some (zI (S.getD j so0).id):=hce 0 (by decide);have e1:w4.cell? ⟨b2,o2+j*5+1,none⟩=some (zI (S.getD j so0).cl):=hce 1 (by decide);have e2:w4.cell? ⟨b2,o2+j*5+2,none⟩=some (zI (S.getD j so0).am):=hce 2 (by decide);have e3:w4.cell? ⟨b2,o2+j*5+3,none⟩=some (zI (S.getD j so0).tg):=hce 3 (by decide);have e4:w4.cell? ⟨b2,o2+j*5+4,none⟩=some (zI (S.getD j so0).rv):=hce 4 (by decide);have HEN:=HS2.o _ 0 (.inr ⟨j,HJ.o.1,HJ.o.2.1,HJ.o.2.2,rfl,rfl⟩);have HV0:Hid (RepIsP t c me id (fmtL (97*(Tok.mk (S.getD j so0).cl.toNat (S.getD j so0).id.toNat (S.getD j so0).am.toNat (S.getD j so0).tg.toNat).num)) 0):=by show RepIsP _ _ _ _ _ _;rw [HJ.o.2.1];exact HEN
    clear hj hid hbe hok htk hc2 hce HEN HS2 HSD HSO HJ H6Y;generalize (S.getD j so0).id=sid at *;generalize (S.getD j so0).cl=scl at *;generalize (S.getD j so0).am=sam at *;generalize (S.getD j so0).tg=stg at *;generalize (S.getD j so0).rv=srv at *;have qq7:w4.cell? ⟨w3.heap.size,7,none⟩=some (.slice (some ⟨b2,o2,none⟩) sn sc):=H6q.o.cell 7;obtain ⟨W6,HWW,H7z,HBB,hsW6⟩:=sh1 w4 #[zI sid,zI scl,zI sam,zI stg,zI srv] 114;have H7t:=shN H6t HBB.o;have H7i:=shN H6i HBB.o;have H7s:=shN H6s HBB.o;have H7q:=shN H6q HBB.o;have H7B:=shB H6B HBB.o;go_upto_region 11 with fail
    clear H6t H6i H6s H6q H6B;rw [HWW.o];clear HWW HBB;clear e0 e1 e2 e3 e4 dj qq7
    have HFM:Hid (Calls Tryz.prog 37 #[.agg #[zI scl,zI sid,zI sam,zI stg]] W6 fun e w'=>e = .returned (.tuple #[.string (token.fmtB (97*(Tok.mk scl.toNat sid.toNat sam.toNat stg.toNat).num)),zI 0])∧Below W6.heap.size W6 w'):=by
     have hh:=token.format_ok _ W6 (HTT.o _ H7B.o) HTK.o.1;rw [HTK.o.2] at hh;exact hh
    obtain ⟨qz0,qz1,qz2,qz3,-⟩:=scl5 H7z
    go_wp2_with (first
     | (refine zqw rfl rfl rfl H7t zqu30 ?_)
     | (refine wp_whole rfl 3 _ rfl _ rfl 3 _ _ H7i.o Tryz.underlying3 rfl (by kernel_rfl) ?_)
     | (refine zqw rfl rfl rfl H7s zqu78 ?_)
     | (refine zqw rfl rfl rfl H7q zqu64 ?_)
     | (refine zqw rfl rfl rfl H7z zqu114 ?_)
     | fail)
    clear qz0 qz1 qz2 qz3;refine HFM.o.mono ?_;rintro e w7 ⟨rfl,hb7⟩;have H8t:=shN H7t hb7;have H8i:=shN H7i hb7;have H8s:=shN H7s hb7;have H8q:=shN H7q hb7;have H8z:=shN H7z hb7;have H8B:=shB H7B hb7;have hsw7:W6.heap.size≤w7.heap.size:=hb7.size;clear hb7 H7t H7i H7s H7q H7z H7B;clear HFM HTK;go_wp2_with fail;go_ret2;exact ⟨_,0,rfl,HV0.o,H8B.o⟩
   ·have HV:Hid (RepIsP t c me id [] 22):=HS2.o _ _ (.inl ⟨hall,rfl,rfl⟩);clear hall HS2 HSD HSO H6Y;go_wp2_with fail;go_ret2;exact ⟨[],22,rfl,HV.o,H6B.o⟩
theorem krpr {w0:World} (tt:TTab w0):KvRpr w0:=fun W t pt lt ct a n cap c me id hW ht hd _ _=>prpr t pt lt ct a n cap c me id W (tt.below hW) ht hd
end vnd
end Go.Proofs.YtdpfnedfakgolaaGreatDoor
