import Derived.Test.YtnpblpbohcegoaaGreatDoorVVCut34
import Derived.Test.YtnpblpbohcegoaaGreatDoorVVCut40
set_option linter.unusedVariables false
set_option linter.unusedSimpArgs false
set_option maxHeartbeats 4000000
set_option maxRecDepth 100000
namespace Go.Proofs.YtnpblpbohcegoaaGreatDoor
namespace acc
open Go.RowKit
theorem debts_no (p p2:Option Addr) (len cap len2 cap2:Nat) (w:World) (hl:len≠len2):Calls Tryz.prog 74 #[.slice p len cap,.slice p2 len2 cap2] w fun e w'=>e = .returned (.bool false)∧w'=w:=by
 have n0:((len:Int) != (len2:Int))=true:=by simp;omega
 clear hl;go_enter Tryz.func74,Tryz.ntmps74;go_wp2_with fail;go_ret;exact ⟨rfl,rfl⟩
theorem acc_no1 (x y:Ac) (p p2:Option Addr) (len cap len2 cap2:Nat) (w:World) (h0:x.me=y.me) (h2:x.nx≠y.nx):Calls Tryz.prog 41 #[.agg #[zI x.me,zI x.rv,zI x.nx,zI x.mo,zI x.bo,zI x.fr,.slice p len cap],.agg #[zI y.me,zI y.rv,zI y.nx,zI y.mo,zI y.bo,zI y.fr,.slice p2 len2 cap2]] w fun e w'=>e = .returned (.bool false)∧Below w.heap.size w w':=by
 obtain ⟨W0,HWW,H0d,H0e,H0B,-⟩:=sh2 w #[zI x.me,zI x.rv,zI x.nx,zI x.mo,zI x.bo,zI x.fr,.slice p len cap] 51 #[zI y.me,zI y.rv,zI y.nx,zI y.mo,zI y.bo,zI y.fr,.slice p2 len2 cap2] 51;have n0:(x.me != y.me)=false:=by rw [h0];simp
 have n2:(x.nx != y.nx)=true:=by simpa using h2
 clear h0 h2;go_enter Tryz.func41,Tryz.ntmps41;go_upto_region 1 with fail
 rw [HWW.o];clear HWW;have d0:W0.cell? ⟨w.heap.size,0,none⟩=some (zI x.me):=H0d.o.cell 0;have e0:W0.cell? ⟨w.heap.size+1,0,none⟩=some (zI y.me):=H0e.o.cell 0;have d1:W0.cell? ⟨w.heap.size,1,none⟩=some (zI x.rv):=H0d.o.cell 1;have e1:W0.cell? ⟨w.heap.size+1,1,none⟩=some (zI y.rv):=H0e.o.cell 1;have d2:W0.cell? ⟨w.heap.size,2,none⟩=some (zI x.nx):=H0d.o.cell 2;have e2:W0.cell? ⟨w.heap.size+1,2,none⟩=some (zI y.nx):=H0e.o.cell 2;clear H0d H0e;by_cases h1:x.rv=y.rv
 ·have n1:(x.rv != y.rv)=false:=by rw [h1];simp
  clear h1;go_wp2_with fail;go_ret;exact ⟨rfl,H0B.o⟩
 ·have n1:(x.rv != y.rv)=true:=by simpa using h1
  clear h1 n2 d2 e2;go_wp2_with fail;go_ret;exact ⟨rfl,H0B.o⟩
theorem acc_no2 (x y:Ac) (p p2:Option Addr) (len cap len2 cap2:Nat) (w:World) (h0:x.me=y.me∧x.rv=y.rv∧x.nx=y.nx∧x.mo=y.mo∧x.bo=y.bo∧x.fr=y.fr) (hl:len≠len2):Calls Tryz.prog 41 #[.agg #[zI x.me,zI x.rv,zI x.nx,zI x.mo,zI x.bo,zI x.fr,.slice p len cap],.agg #[zI y.me,zI y.rv,zI y.nx,zI y.mo,zI y.bo,zI y.fr,.slice p2 len2 cap2]] w fun e w'=>e = .returned (.bool false)∧Below w.heap.size w w':=by
 have H0d:Hid (Blk ((w.alloc (.cells #[zI x.me,zI x.rv,zI x.nx,zI x.mo,zI x.bo,zI x.fr,.slice p len cap] 51)).alloc (.cells #[zI y.me,zI y.rv,zI y.nx,zI y.mo,zI y.bo,zI y.fr,.slice p2 len2 cap2] 51)) w.heap.size #[zI x.me,zI x.rv,zI x.nx,zI x.mo,zI x.bo,zI x.fr,.slice p len cap] 51):=(Blk.new w _ _).alloc _;have H0e:Hid (Blk ((w.alloc (.cells #[zI x.me,zI x.rv,zI x.nx,zI x.mo,zI x.bo,zI x.fr,.slice p len cap] 51)).alloc (.cells #[zI y.me,zI y.rv,zI y.nx,zI y.mo,zI y.bo,zI y.fr,.slice p2 len2 cap2] 51)) (w.heap.size+1) #[zI y.me,zI y.rv,zI y.nx,zI y.mo,zI y.bo,zI y.fr,.slice p2 len2 cap2] 51):=Blk.new1 w _ _ _;have H0B:Hid (Below w.heap.size w ((w.alloc (.cells #[zI x.me,zI x.rv,zI x.nx,zI x.mo,zI x.bo,zI x.fr,.slice p len cap] 51)).alloc (.cells #[zI y.me,zI y.rv,zI y.nx,zI y.mo,zI y.bo,zI y.fr,.slice p2 len2 cap2] 51))):=((Below.refl w.heap.size w).alloc (by simp) _).alloc (by simp) _;obtain ⟨h0,h1,h2,h3,h4,h5⟩:=h0;have n0:(x.me != y.me)=false:=by rw [h0];simp
 have n1:(x.rv != y.rv)=false:=by rw [h1];simp
 have n2:(x.nx != y.nx)=false:=by rw [h2];simp
 have n3:(x.mo != y.mo)=false:=by rw [h3];simp
 have n4:(x.bo != y.bo)=false:=by rw [h4];simp
 have n5:(x.fr != y.fr)=false:=by rw [h5];simp
 have HDB:Hid (∀ W,Calls Tryz.prog 74 #[.slice p len cap,.slice p2 len2 cap2] W fun e w'=>e = .returned (.bool false)∧w'=W):=fun W=>debts_no p p2 len cap len2 cap2 W hl;clear h0 h1 h2 h3 h4 h5 hl;generalize hWW:((w.alloc (.cells #[zI x.me,zI x.rv,zI x.nx,zI x.mo,zI x.bo,zI x.fr,.slice p len cap] 51)).alloc (.cells #[zI y.me,zI y.rv,zI y.nx,zI y.mo,zI y.bo,zI y.fr,.slice p2 len2 cap2] 51))=W0 at *;have HWW:Hid (((w.alloc (.cells #[zI x.me,zI x.rv,zI x.nx,zI x.mo,zI x.bo,zI x.fr,.slice p len cap] 51)).alloc (.cells #[zI y.me,zI y.rv,zI y.nx,zI y.mo,zI y.bo,zI y.fr,.slice p2 len2 cap2] 51))=W0):=hWW;clear hWW;go_enter Tryz.func41,Tryz.ntmps41;go_upto_region 1 with fail
 rw [HWW.o];clear HWW;have d0:W0.cell? ⟨w.heap.size,0,none⟩=some (zI x.me):=H0d.o.cell 0;have e0:W0.cell? ⟨w.heap.size+1,0,none⟩=some (zI y.me):=H0e.o.cell 0;have d1:W0.cell? ⟨w.heap.size,1,none⟩=some (zI x.rv):=H0d.o.cell 1;have e1:W0.cell? ⟨w.heap.size+1,1,none⟩=some (zI y.rv):=H0e.o.cell 1;have d2:W0.cell? ⟨w.heap.size,2,none⟩=some (zI x.nx):=H0d.o.cell 2;have e2:W0.cell? ⟨w.heap.size+1,2,none⟩=some (zI y.nx):=H0e.o.cell 2;have d3:W0.cell? ⟨w.heap.size,3,none⟩=some (zI x.mo):=H0d.o.cell 3;have e3:W0.cell? ⟨w.heap.size+1,3,none⟩=some (zI y.mo):=H0e.o.cell 3;have d4:W0.cell? ⟨w.heap.size,4,none⟩=some (zI x.bo):=H0d.o.cell 4;have e4:W0.cell? ⟨w.heap.size+1,4,none⟩=some (zI y.bo):=H0e.o.cell 4;have d5:W0.cell? ⟨w.heap.size,5,none⟩=some (zI x.fr):=H0d.o.cell 5;have e5:W0.cell? ⟨w.heap.size+1,5,none⟩=some (zI y.fr):=H0e.o.cell 5;have d6:W0.cell? ⟨w.heap.size,6,none⟩=some (.slice p len cap):=H0d.o.cell 6;have e6:W0.cell? ⟨w.heap.size+1,6,none⟩=some (.slice p2 len2 cap2):=H0e.o.cell 6;clear H0d H0e;go_wp2_with fail;refine (HDB.o _).mono ?_;rintro e w1 ⟨rfl,hq⟩;subst w1;go_wp2_with fail;go_ret;exact ⟨rfl,H0B.o⟩
end acc
namespace vnd
open disk (RepIs AppIs)
open book (Ev ev0 EMay evL evOf EncIs DecIs Cm cm0 So so0 BookIs Sees ECame FirstAt NoneAt)
open acc (Ac Tm Bi TCame ACame)
open cell (Wr RowU)
open Go.RowKit
theorem owe_ev {a b:Ac} {me:Int} {q:tar.Du} (h:acc.OweIs a q b 0) (ha:a.me=me):EMay (chaE me q.a q.b):=by
 rcases h with ⟨_,_,h⟩ | ⟨_,_,_,h⟩ | ⟨_,_,_,_,h⟩ | ⟨hm,hd,_⟩
 ·cases h
 ·cases h
 ·cases h
 ·exact ⟨by rw [← ha];exact hm.2.1,.inr (.inl ⟨rfl,rfl,rfl,rfl,rfl,rfl,rfl,rfl,rfl,rfl,hd⟩)⟩
theorem pcha (t:Tm) (pt:Option Addr) (lt ct:Nat) (a:Option Addr) (n cap:Nat) (c:List Int) (me:Int) (q:tar.Du) (w:World) (ht:TCame w t pt lt ct) (h:Dk w a n cap c) (hq:(Lit.int .i64 q.a).wf=true∧(Lit.int .i64 q.b).wf=true):Calls Tryz.prog 42 #[.agg #[.slice pt lt ct,zI t.ff,zI t.fb,zI t.db,zI t.al],.slice a n cap,zI me,.agg #[zI q.a,zI q.b]] w fun e w'=>WrGot w (ChaIs t c me q.a q.b) e w':=by
 have HQ:Hid ((Lit.int .i64 q.a).wf=true∧(Lit.int .i64 q.b).wf=true):=hq;clear hq;have HC:Hid (∀ W,Below w.heap.size w W→Dk W a n cap c):=fun W hW=>h.below hW;have HT:Hid (∀ W,Below w.heap.size w W→TCame W t pt lt ct):=fun W hW=>ht.below hW;clear h ht;obtain ⟨W0,HWW,H0t,H0d,H0B,hs0⟩:=sh2 w #[.slice pt lt ct,zI t.ff,zI t.fb,zI t.db,zI t.al] 24 #[zI q.a,zI q.b] 70;go_enter Tryz.func42,Tryz.ntmps42;go_upto_region 1 with fail
 rw [HWW.o];clear HWW;have HOP:Hid (Calls Tryz.prog 23 #[.agg #[.slice pt lt ct,zI t.ff,zI t.fb,zI t.db,zI t.al],.slice a n cap] W0 fun e w'=>OpnP W0 t a n cap c e w'):=popen t pt lt ct a n cap c W0 (HT.o _ H0B.o) (HC.o _ H0B.o)
 go_wp2_with (first
  | (refine zqw rfl rfl rfl H0t zqu24 ?_)
  | (refine zqw rfl rfl rfl H0d zqu70 ?_)
  | fail)
 refine HOP.o.mono ?_;rintro e w1 (⟨f,rfl,h0,hli,hb1⟩ | ⟨p2,m2,c2,xs,bk,l,rfl,hli,hkp,hse,hm2,hb1⟩)
 ·have d0:(f != 0)=true:=by simpa using h0
  have H1t:=shN H0t hb1;have H1d:=shN H0d hb1;have H1B:=shB H0B hb1;have hsw1:W0.heap.size≤w1.heap.size:=hb1.size;clear hb1 H0t H0d H0B;have HLI:Hid (f≠0∧LoadIs t c [] f):=⟨h0,hli⟩
  clear h0 hli HOP;obtain ⟨W2,HWW,H2s,HBB,hsW2⟩:=sh1 w1 #[zS,zS,zI 0] 87;have H2t:=shN H1t HBB.o;have H2d:=shN H1d HBB.o;have H2B:=shB H1B HBB.o;go_upto_region 2 with fail
  clear H1t H1d H1B;rw [HWW.o];clear HWW HBB;have HV:Hid (ChaIs t c me q.a q.b [] f):=⟨[],f,HLI.o.2,.inl ⟨HLI.o.1,rfl,rfl⟩⟩
  clear HLI;go_wp2_with fail;go_ret2;exact ⟨none,0,0,[],f,rfl,HV.o,⟨rfl,.inl rfl⟩,(fun x hx=>by cases hx),Nat.le_refl _,Nat.zero_le _,H2B.o⟩
 ·have HLI:Hid (LoadIs t c bk 0):=hli;have HKI:Hid (KeptIs c l 0):=hkp;have HSE:Hid (Sees w1 p2 m2 xs bk):=hse;have H1t:=shN H0t hb1;have H1d:=shN H0d hb1;have H1B:=shB H0B hb1;have hsw1:W0.heap.size≤w1.heap.size:=hb1.size;clear hb1 H0t H0d H0B;have HL2:Hid (l.length≤120):=load_len hli hkp;clear hli hkp hse HOP;have H2X:Hid (Below w1.heap.size w1 w1):=Below.refl _ _;obtain ⟨W2,HWW,H3s,H3X,hsW2⟩:=sh1 w1 #[.slice p2 m2 c2,.slice a n cap,zI (l.length:Int)] 87;have H3t:=shN H1t H3X.o;have H3d:=shN H1d H3X.o;have H3B:=shB H1B H3X.o;go_upto_region 2 with fail
  clear H1t H1d H2X H1B;rw [HWW.o];clear HWW;have HSW:Hid (Sees W2 p2 m2 xs bk):=HSE.o.below H3X.o;clear HSE;have HCU:Hid (Calls Tryz.prog 24 #[.agg #[.slice p2 m2 c2,.slice a n cap,zI (l.length:Int)],zI me] W2 fun e w'=>CusP W2 bk me e w'):=pcust p2 m2 c2 xs bk a n cap _ me W2 HSW.o hm2
  go_wp2_with (first
   | (refine zqw rfl rfl rfl H3t zqu24 ?_)
   | (refine zqw rfl rfl rfl H3d zqu70 ?_)
   | (refine zqw rfl rfl rfl H3s zqu87 ?_)
   | fail)
  refine HCU.o.mono ?_;rintro e w3 ⟨hb3,⟨rfl,hno⟩ | ⟨k,dp,dn,dc,sp,sn,sc,rfl,hft,hkb,hcm,hso⟩⟩
  ·have HNO:Hid (NoneAt bk me):=hno;clear hno HCU HSW;have H4t:=shN H3t hb3;have H4d:=shN H3d hb3;have H4s:=shN H3s hb3;have H4B:=shB H3B hb3;have hsw3:W2.heap.size≤w3.heap.size:=hb3.size;clear hb3 H3t H3d H3s H3B;obtain ⟨W4,HWW,H5q,HBB,hsW4⟩:=sh1 w3 #[zI 0,zI 0,zI 0,zI 0,zI 0,zI 0,zS,zS] 54;have H5t:=shN H4t HBB.o;have H5d:=shN H4d HBB.o;have H5s:=shN H4s HBB.o;have H5B:=shB H4B HBB.o;go_upto_region 5 with fail
   clear H4t H4d H4s H4B;rw [HWW.o];clear HWW HBB;have HV:Hid (ChaIs t c me q.a q.b [] 18):=⟨bk,0,HLI.o,.inr (.inl ⟨rfl,HNO.o,rfl,rfl⟩)⟩
   go_wp2_with fail;go_ret2;exact ⟨none,0,0,[],18,rfl,HV.o,⟨rfl,.inl rfl⟩,(fun x hx=>by cases hx),Nat.le_refl _,Nat.zero_le _,H5B.o⟩
  ·have HFT:Hid (FirstAt bk me k):=hft;have HWF:Hid (acc.wf6 (bk.getD k cm0).a):=load_wf HLI.o _ (book.getD_in hkb);have HCM:Hid (tar.Came W2 dp dn dc (bk.getD k cm0).a.ds):=hcm;have HSO:Hid (book.RowS W2 sp sn (bk.getD k cm0).so):=hso;have HK3:Hid (Below W2.heap.size W2 w3):=hb3;clear hft hkb hcm hso HCU HSW;generalize hy:(bk.getD k cm0).a=y at *;have HY:Hid ((bk.getD k cm0).a=y):=hy;clear hy;have H4t:=shN H3t hb3;have H4d:=shN H3d hb3;have H4s:=shN H3s hb3;have H4B:=shB H3B hb3;have hsw3:W2.heap.size≤w3.heap.size:=hb3.size;clear hb3 H3t H3d H3s H3B;have H5t:Hid (Blk (w3.alloc (.cells #[zI y.me,zI y.rv,zI y.nx,zI y.mo,zI y.bo,zI y.fr,.slice dp dn dc,.slice sp sn sc] 54)) (w.heap.size) #[.slice pt lt ct,zI t.ff,zI t.fb,zI t.db,zI t.al] 24):=H4t.o.alloc _;have H5d:Hid (Blk (w3.alloc (.cells #[zI y.me,zI y.rv,zI y.nx,zI y.mo,zI y.bo,zI y.fr,.slice dp dn dc,.slice sp sn sc] 54)) (w.heap.size+1) #[zI q.a,zI q.b] 70):=H4d.o.alloc _;have H5s:Hid (Blk (w3.alloc (.cells #[zI y.me,zI y.rv,zI y.nx,zI y.mo,zI y.bo,zI y.fr,.slice dp dn dc,.slice sp sn sc] 54)) (w1.heap.size) #[.slice p2 m2 c2,.slice a n cap,zI (l.length:Int)] 87):=H4s.o.alloc _;have H5Y:Hid (Below W2.heap.size W2 (w3.alloc (.cells #[zI y.me,zI y.rv,zI y.nx,zI y.mo,zI y.bo,zI y.fr,.slice dp dn dc,.slice sp sn sc] 54))):=HK3.o.alloc HK3.o.size _;have H5q:Hid (Blk (w3.alloc (.cells #[zI y.me,zI y.rv,zI y.nx,zI y.mo,zI y.bo,zI y.fr,.slice dp dn dc,.slice sp sn sc] 54)) (w3.heap.size) #[zI y.me,zI y.rv,zI y.nx,zI y.mo,zI y.bo,zI y.fr,.slice dp dn dc,.slice sp sn sc] 54):=Blk.new w3 _ _;have H5B:Hid (Below w.heap.size w (w3.alloc (.cells #[zI y.me,zI y.rv,zI y.nx,zI y.mo,zI y.bo,zI y.fr,.slice dp dn dc,.slice sp sn sc] 54))):=H4B.o.alloc H4B.o.size _;have hsW4:w3.heap.size<(w3.alloc (.cells #[zI y.me,zI y.rv,zI y.nx,zI y.mo,zI y.bo,zI y.fr,.slice dp dn dc,.slice sp sn sc] 54)).heap.size:=(Blk.new w3 #[zI y.me,zI y.rv,zI y.nx,zI y.mo,zI y.bo,zI y.fr,.slice dp dn dc,.slice sp sn sc] 54).lt
   go_upto_region 5 with fail
   clear H4t H4d H4s HK3 H4B;generalize (w3.alloc (.cells #[zI y.me,zI y.rv,zI y.nx,zI y.mo,zI y.bo,zI y.fr,.slice dp dn dc,.slice sp sn sc] 54))=W4 at *;have HOW:Hid (Calls Tryz.prog 75 #[.agg #[zI y.me,zI y.rv,zI y.nx,zI y.mo,zI y.bo,zI y.fr,.slice dp dn dc],.agg #[zI q.a,zI q.b]] W4 fun e w'=>acc.APost W4 (acc.OweIs y q) e w'):=acc.kowe W4 y dp dn dc q ⟨HCM.o.below H5Y.o,HWF.o⟩ HQ.o;obtain ⟨qq0,qq1,qq2,qq3,qq4,qq5,qq6,-⟩:=scl8 H5q
   go_wp2_with (first
    | (refine zqw rfl rfl rfl H5t zqu24 ?_)
    | (refine zqw rfl rfl rfl H5d zqu70 ?_)
    | (refine zqw rfl rfl rfl H5s zqu87 ?_)
    | (refine zqw rfl rfl rfl H5q zqu54 ?_)
    | fail)
   refine HOW.o.mono ?_;rintro e w4 ⟨b,p4,n4,c4,h4,rfl,hoi,hfr,hb4⟩;have H6t:=shN H5t hb4;have H6d:=shN H5d hb4;have H6s:=shN H5s hb4;have H6q:=shN H5q hb4;have H6B:=shB H5B hb4;have hsw4:W4.heap.size≤w4.heap.size:=hb4.size;clear hb4 H5t H5d H5s H5q H5B;clear qq0 qq1 qq2 qq3 qq4 qq5 qq6;have HOI:Hid (acc.OweIs y q b h4):=hoi;clear hoi hfr HOW HCM HSO;unfold acc.Ac.v acc.Ac.cs;obtain ⟨W5,HWW,H7b,HBB,hsW5⟩:=sh1 w4 #[zI b.me,zI b.rv,zI b.nx,zI b.mo,zI b.bo,zI b.fr,.slice p4 n4 c4] 51;have H7t:=shN H6t HBB.o;have H7d:=shN H6d HBB.o;have H7s:=shN H6s HBB.o;have H7q:=shN H6q HBB.o;have H7B:=shB H6B HBB.o;go_upto_region 8 with fail
   clear H6t H6d H6s H6q H6B;rw [HWW.o];clear HWW HBB;by_cases h5:h4=0
   ·subst h5;have HEV:Hid (EMay (chaE me q.a q.b)):=owe_ev HOI.o (by rw [← HY.o];exact HFT.o.2.1);have HKE:Hid (Calls Tryz.prog 61 #[.agg #[.slice p2 m2 c2,.slice a n cap,zI (l.length:Int)],.agg #[zI 5,zI me,zI 0,zI 0,zI 0,zI 0,zI 0,zI 0,zI 0,zI 0,zI 0,zI q.a,zI q.b]] W5 fun e w'=>WrGot W5 (KeepIs c (chaE me q.a q.b)) e w'):=pkeep p2 m2 c2 a n cap c l (chaE me q.a q.b) W5 (HC.o _ H7B.o) HKI.o HL2.o HEV.o
    go_wp2_with (first
     | (refine zqw rfl rfl rfl H7t zqu24 ?_)
     | (refine zqw rfl rfl rfl H7d zqu70 ?_)
     | (refine zqw rfl rfl rfl H7s zqu87 ?_)
     | (refine zqw rfl rfl rfl H7q zqu54 ?_)
     | (refine zqw rfl rfl rfl H7b zqu51 ?_)
     | fail)
    refine HKE.o.mono ?_;rintro e w5 ⟨p3,m3,c3,ls,f3,rfl,hke,hrow,hnew,hle,hsm,hb5⟩;have H8t:=shN H7t hb5;have H8d:=shN H7d hb5;have H8s:=shN H7s hb5;have H8q:=shN H7q hb5;have H8b:=shN H7b hb5;have H8B:=shB H7B hb5;have hsw5:W5.heap.size≤w5.heap.size:=hb5.size;clear hb5 H7t H7d H7s H7q H7b H7B;have HV:Hid (ChaIs t c me q.a q.b ls f3):=⟨bk,0,HLI.o,.inr (.inr ⟨rfl,k,b,0,HFT.o,by rw [HY.o];exact HOI.o,.inr ⟨rfl,hke⟩⟩)⟩
    have HRW:Hid (cell.RowW w5 p3 m3 ls):=hrow;have HNW:Hid (∀ x,p3=some x→w.heap.size≤x.block):=fun x hx=>Nat.le_trans (by omega) (hnew x hx);clear hke hrow hnew HKE;go_wp2_with fail;go_ret2;exact ⟨p3,m3,c3,ls,f3,rfl,HV.o,HRW.o,HNW.o,hle,hsm,H8B.o⟩
   ·have d5:(h4 != 0)=true:=by simpa using h5
    have HV:Hid (ChaIs t c me q.a q.b [] h4):=⟨bk,0,HLI.o,.inr (.inr ⟨rfl,k,b,h4,HFT.o,by rw [HY.o];exact HOI.o,.inl ⟨h5,rfl,rfl⟩⟩)⟩
    clear h5;go_wp2_with fail;go_ret2;exact ⟨none,0,0,[],h4,rfl,HV.o,⟨rfl,.inl rfl⟩,(fun x hx=>by cases hx),Nat.le_refl _,Nat.zero_le _,H7B.o⟩
theorem kcha:KvCha:=fun W t pt lt ct a n cap c me q ht hd _ h1 h2=>pcha t pt lt ct a n cap c me q W ht hd ⟨h1,h2⟩
theorem pload (t:Tm) (pt:Option Addr) (lt ct:Nat) (a:Option Addr) (n cap:Nat) (c:List Int) (w:World) (ht:TCame w t pt lt ct) (h:Dk w a n cap c):Calls Tryz.prog 15 #[.agg #[.slice pt lt ct,zI t.ff,zI t.fb,zI t.db,zI t.al],.slice a n cap] w fun e w'=>LoadPost w t c e w':=by
 have HC:Hid (∀ W,Below w.heap.size w W→Dk W a n cap c):=fun W hW=>h.below hW;have HT:Hid (∀ W,Below w.heap.size w W→TCame W t pt lt ct):=fun W hW=>ht.below hW;clear h ht;obtain ⟨W0,HWW,H0t,H0r,H0B,hs0⟩:=sh2 w #[.slice pt lt ct,zI t.ff,zI t.fb,zI t.db,zI t.al] 24 #[zS] 46;go_enter Tryz.func15,Tryz.ntmps15;go_upto_region 1 with fail
 rw [HWW.o];clear HWW;have HOP:Hid (Calls Tryz.prog 23 #[.agg #[.slice pt lt ct,zI t.ff,zI t.fb,zI t.db,zI t.al],.slice a n cap] W0 fun e w'=>OpnP W0 t a n cap c e w'):=popen t pt lt ct a n cap c W0 (HT.o _ H0B.o) (HC.o _ H0B.o)
 go_wp2_with (first
  | (refine zqw rfl rfl rfl H0t zqu24 ?_)
  | (refine zqw rfl rfl rfl H0r zqu46 ?_)
  | fail)
 refine HOP.o.mono ?_;rintro e w1 (⟨f,rfl,h0,hli,hb1⟩ | ⟨p2,m2,c2,xs,bk,l,rfl,hli,hkp,hse,hm2,hb1⟩)
 ·have d0:(f != 0)=true:=by simpa using h0
  have H1t:=shN H0t hb1;have H1r:=shN H0r hb1;have H1B:=shB H0B hb1;have hsw1:W0.heap.size≤w1.heap.size:=hb1.size;clear hb1 H0t H0r H0B;have HLI:Hid (f≠0∧LoadIs t c [] f):=⟨h0,hli⟩
  clear h0 hli HOP;obtain ⟨W2,HWW,H2s,HBB,hsW2⟩:=sh1 w1 #[zS,zS,zI 0] 87;have H2t:=shN H1t HBB.o;have H2r:=shN H1r HBB.o;have H2B:=shB H1B HBB.o;go_upto_region 2 with fail
  clear H1t H1r H1B;rw [HWW.o];clear HWW HBB;have qs0:W2.cell? ⟨w1.heap.size,0,none⟩=some (zS):=H2s.o.cell 0
  go_wp2_with (first
   | (refine zql rfl rfl rfl rfl zqu46 (by simp [Value.oneCell']) H2r rfl ?_)
   | (refine zqw rfl rfl rfl H2t zqu24 ?_)
   | (refine zqw rfl rfl rfl H2r zqu46 ?_)
   | (refine zqw rfl rfl rfl H2s zqu87 ?_)
   | fail)
  intro W3 hU;have H3t:=shK hU H2t (by omega);have H3r:Hid (Blk W3 (w.heap.size+1) #[zS] 46):=hU.blk;have H3s:=shK hU H2s (by omega);have H3B:=shV hU H2B (by omega);have hsW3:W3.heap.size=W2.heap.size:=hU.size;clear hU H2t H2r H2s H2B;clear qs0;have Rr0:Hid (W3.cell? ⟨w.heap.size+1,0,none⟩=some (zS)):=H3r.o.cell 0;go_wp2_with fail;exact bodyPost_ret (v:= .tuple #[.agg #[zS],zI f]) (by simp [results,Tryz.results15,Rr0.o,go_sem]) rfl ⟨none,0,0,[],[],f,rfl,HLI.o.2,book.sees_nil _,Nat.zero_le _,H3B.o⟩
 ·have HLI:Hid (LoadIs t c bk 0):=hli;have HKI:Hid (KeptIs c l 0):=hkp;have HSE:Hid (Sees w1 p2 m2 xs bk):=hse;have H1t:=shN H0t hb1;have H1r:=shN H0r hb1;have H1B:=shB H0B hb1;have hsw1:W0.heap.size≤w1.heap.size:=hb1.size;clear hb1 H0t H0r H0B;have HL2:Hid (l.length≤120):=load_len hli hkp;clear hli hkp hse HOP;have H2X:Hid (Below w1.heap.size w1 w1):=Below.refl _ _;obtain ⟨W2,HWW,H3s,H3X,hsW2⟩:=sh1 w1 #[.slice p2 m2 c2,.slice a n cap,zI (l.length:Int)] 87;have H3t:=shN H1t H3X.o;have H3r:=shN H1r H3X.o;have H3B:=shB H1B H3X.o;go_upto_region 2 with fail
  clear H1t H1r H2X H1B;rw [HWW.o];clear HWW;have HSW:Hid (Sees W2 p2 m2 xs bk):=HSE.o.below H3X.o;clear HSE;have qs0:W2.cell? ⟨w1.heap.size,0,none⟩=some (.slice p2 m2 c2):=H3s.o.cell 0
  go_wp2_with (first
   | (refine zql rfl rfl rfl rfl zqu46 (by simp [Value.oneCell']) H3r rfl ?_)
   | (refine zqw rfl rfl rfl H3t zqu24 ?_)
   | (refine zqw rfl rfl rfl H3r zqu46 ?_)
   | (refine zqw rfl rfl rfl H3s zqu87 ?_)
   | fail)
  intro W3 hU;have HS3:Hid (Sees W3 p2 m2 xs bk):=sees_far HSW.o (one_odd H3r.o) hU;have H4t:=shK hU H3t (by omega);have H4r:Hid (Blk W3 (w.heap.size+1) #[.slice p2 m2 c2] 46):=hU.blk;have H4s:=shK hU H3s (by omega);have H4B:=shV hU H3B (by omega);have hsW3:W3.heap.size=W2.heap.size:=hU.size;clear hU H3t H3r H3s H3B;clear qs0;have Rr0:Hid (W3.cell? ⟨w.heap.size+1,0,none⟩=some (.slice p2 m2 c2)):=H4r.o.cell 0;go_wp2_with fail;exact bodyPost_ret (v:= .tuple #[.agg #[.slice p2 m2 c2],zI 0]) (by simp [results,Tryz.results15,Rr0.o,go_sem]) rfl ⟨p2,m2,c2,xs,bk,0,rfl,HLI.o,HS3.o,hm2,H4B.o⟩
theorem kload:KvLoad:=fun W t pt lt ct a n cap c ht hd=>pload t pt lt ct a n cap c W ht hd
end vnd
end Go.Proofs.YtnpblpbohcegoaaGreatDoor
