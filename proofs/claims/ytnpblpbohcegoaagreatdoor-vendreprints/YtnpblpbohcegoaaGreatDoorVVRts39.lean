import Derived.Test.YtnpblpbohcegoaaGreatDoorVVRts29
import Derived.Test.YtnpblpbohcegoaaGreatDoorVVRts38
set_option linter.unusedVariables false
set_option linter.unusedSimpArgs false
set_option maxHeartbeats 4000000
set_option maxRecDepth 100000
namespace Go.Proofs.YtnpblpbohcegoaaGreatDoor
namespace vnd
open disk (RepIs RepPost Lr Recs Sli sl0)
open book (Ev ev0 EMay evL evOf DecIs Cm cm0 So so0 BookIs BookPost Sees ECame RowE FirstAt NoneAt Tells DecPost)
open acc (Ac Tm Bi SellIs GrantIs RekeyIs OweIs)
open cell (Wr RowU)
open token (Tok fmtL)
open Go.RowKit
theorem rloaded (t:Tm) (pt:Option Addr) (lt ct:Nat) (a:Option Addr) (n cap:Nat) (c:List Int) (w:World) (ht:tar.Came w pt lt ct t.ts) (h:RowU w a n c) (hw:∀ x∈c,0≤x∧x<4294967296):Calls Tryz.prog 29 #[.agg #[.slice pt lt ct,zI t.ff,zI t.fb,zI t.db,zI t.al],.slice a n cap] w fun e w'=>LoadPost w t c e w':=by
 have HC:Hid (∀ W,Below w.heap.size w W→RowU W a n c):=fun W hW=>h.below hW;have HT:Hid (∀ W,Below w.heap.size w W→tar.Came W pt lt ct t.ts):=fun W hW=>ht.below hW;have HW:Hid (∀ x∈c,0≤x∧x<4294967296):=hw;clear h ht hw;obtain ⟨W0,HWW,H0t,H0r,H0B,hs0⟩:=sh2 w #[.slice pt lt ct,zI t.ff,zI t.fb,zI t.db,zI t.al] 24 #[zS] 46;go_enter Tryz.func29,Tryz.ntmps29;go_upto_region 1 with fail
 rw [HWW.o];clear HWW;have HKP:Hid (Calls Tryz.prog 55 #[.slice a n cap] W0 fun e w'=>KeptPost W0 c e w'):=rkept a n cap c W0 (HC.o _ H0B.o) HW.o
 go_wp2_with (first
  | (refine zqw rfl rfl rfl H0t zqu24 ?_)
  | (refine zqw rfl rfl rfl H0r zqu46 ?_)
  | fail)
 refine HKP.o.mono ?_;rintro e w1 ⟨p,m,cp,l,f,rfl,hk,hec,hm,hb1⟩;have H1t:=shN H0t hb1;have H1r:=shN H0r hb1;have H1B:=shB H0B hb1;have hsw1:W0.heap.size≤w1.heap.size:=hb1.size;clear hb1 H0t H0r H0B;have HKI:Hid (KeptIs c l f):=hk;have HEC:Hid (ECame w1 p m cp l):=hec;clear hk hec HKP;by_cases h0:f=0
 ·subst h0;have HBO:Hid (Calls Tryz.prog 56 #[.agg #[.slice pt lt ct,zI t.ff,zI t.fb,zI t.db,zI t.al],.slice p m cp] w1 fun e w'=>BookPost w1 t l e w'):=book.rbook t pt lt ct p m cp l w1 (HT.o _ H1B.o).row (HT.o _ H1B.o).most HEC.o.row (by omega)
  go_wp2_with (first
   | (refine zqw rfl rfl rfl H1t zqu24 ?_)
   | (refine zqw rfl rfl rfl H1r zqu46 ?_)
   | fail)
  refine HBO.o.mono ?_;rintro e w2 ⟨p2,m2,c2,xs,bk,at_,f2,rfl,hbi,hse,hm2,hb2⟩;have H2t:=shN H1t hb2;have H2r:=shN H1r hb2;have H2B:=shB H1B hb2;have hsw2:w1.heap.size≤w2.heap.size:=hb2.size;clear hb2 H1t H1r H1B;have HV:Hid (LoadIs t c bk f2):=⟨l,0,HKI.o,.inr ⟨rfl,at_,hbi⟩⟩
  obtain ⟨W3,HWW,H3n,HBB,hsW3⟩:=sh1 w2 #[.slice p2 m2 c2] 46;have HS2:Hid (Sees W3 p2 m2 xs bk):=hse.below HBB.o;clear hbi hse HBO HEC HKI;have H3t:=shN H2t HBB.o;have H3r:=shN H2r HBB.o;have H3B:=shB H2B HBB.o;go_upto_region 5 with fail
  clear H2t H2r H2B;rw [HWW.o];clear HWW HBB
  go_wp2_with (first
   | (refine zql rfl rfl rfl rfl zqu46 (by simp [Value.oneCell']) H3r rfl ?_)
   | (refine zqw rfl rfl rfl H3t zqu24 ?_)
   | (refine zqw rfl rfl rfl H3r zqu46 ?_)
   | (refine zqw rfl rfl rfl H3n zqu46 ?_)
   | fail)
  intro W4 hU;have HS4:Hid (Sees W4 p2 m2 xs bk):=sees_one HS2.o H3r.o hU;have H4t:=shK hU H3t (by omega);have H4r:Hid (Blk W4 (w.heap.size+1) #[.slice p2 m2 c2] 46):=hU.blk;have H4n:=shK hU H3n (by omega);have H4B:=shV hU H3B (by omega);have hsW4:W4.heap.size=W3.heap.size:=hU.size;clear hU H3t H3r H3n H3B;have Rr0:Hid (W4.cell? ⟨w.heap.size+1,0,none⟩=some (.slice p2 m2 c2)):=H4r.o.cell 0;go_wp2_with fail;exact bodyPost_ret (v:= .tuple #[.agg #[.slice p2 m2 c2],zI f2]) (by simp [results,Tryz.results29,Rr0.o,go_sem]) rfl ⟨p2,m2,c2,xs,bk,f2,rfl,HV.o,HS4.o,hm2,H4B.o⟩
 ·have d0:(f != 0)=true:=by simpa using h0
  have HV:Hid (LoadIs t c [] f):=⟨l,f,HKI.o,.inl ⟨h0,rfl,rfl⟩⟩
  clear h0 HEC HKI
  go_wp2_with (first
   | (refine zql rfl rfl rfl rfl zqu46 (by simp [Value.oneCell']) H1r rfl ?_)
   | (refine zqw rfl rfl rfl H1t zqu24 ?_)
   | (refine zqw rfl rfl rfl H1r zqu46 ?_)
   | fail)
  intro W3 hU;have H2t:=shK hU H1t (by omega);have H2r:Hid (Blk W3 (w.heap.size+1) #[zS] 46):=hU.blk;have H2B:=shV hU H1B (by omega);have hsW3:W3.heap.size=w1.heap.size:=hU.size;clear hU H1t H1r H1B;have Rr0:Hid (W3.cell? ⟨w.heap.size+1,0,none⟩=some (zS)):=H2r.o.cell 0;go_wp2_with fail;exact bodyPost_ret (v:= .tuple #[.agg #[zS],zI f]) (by simp [results,Tryz.results29,Rr0.o,go_sem]) rfl ⟨none,0,0,[],[],f,rfl,HV.o,book.sees_nil _,Nat.zero_le _,H2B.o⟩
theorem rreprint (t:Tm) (pt:Option Addr) (lt ct:Nat) (a:Option Addr) (n cap:Nat) (c:List Int) (me id:Int) (w:World) (KF:KFm) (ht:tar.Came w pt lt ct t.ts) (h:RowU w a n c) (hw:∀ x∈c,0≤x∧x<4294967296):Calls Tryz.prog 12 #[.agg #[.slice pt lt ct,zI t.ff,zI t.fb,zI t.db,zI t.al],.slice a n cap,zI me,zI id] w fun e w'=>RprPost w (RepIsP t c me id) e w':=by
 have HC:Hid (∀ W,Below w.heap.size w W→RowU W a n c):=fun W hW=>h.below hW;have HT:Hid (∀ W,Below w.heap.size w W→tar.Came W pt lt ct t.ts):=fun W hW=>ht.below hW;have HW:Hid (∀ x∈c,0≤x∧x<4294967296):=hw;clear h ht hw;have HKF:Hid KFm:=KF;clear KF;obtain ⟨W0,HWW,H0t,H0B,hs0⟩:=sh1 w #[.slice pt lt ct,zI t.ff,zI t.fb,zI t.db,zI t.al] 24;go_enter Tryz.func12,Tryz.ntmps12;go_upto_region 1 with fail
 rw [HWW.o];clear HWW;have HLO:Hid (Calls Tryz.prog 29 #[.agg #[.slice pt lt ct,zI t.ff,zI t.fb,zI t.db,zI t.al],.slice a n cap] W0 fun e w'=>LoadPost W0 t c e w'):=rloaded t pt lt ct a n cap c W0 (HT.o _ H0B.o) (HC.o _ H0B.o) HW.o
 go_wp2_with (first
  | (refine zqw rfl rfl rfl H0t zqu24 ?_)
  | fail)
 refine HLO.o.mono ?_;rintro e w1 ⟨p2,m2,c2,xs,bk,g,rfl,hli,hse,hm2,hb1⟩;have H1t:=shN H0t hb1;have H1B:=shB H0B hb1;have hsw1:W0.heap.size≤w1.heap.size:=hb1.size;clear hb1 H0t H0B;have HLI:Hid (LoadIs t c bk g):=hli;have HSE:Hid (Sees w1 p2 m2 xs bk):=hse;clear hli hse HLO;have H2X:Hid (Below w1.heap.size w1 w1):=Below.refl _ _;obtain ⟨W2,HWW,H3k,H3X,hsW2⟩:=sh1 w1 #[.slice p2 m2 c2] 46;have H3t:=shN H1t H3X.o;have H3B:=shB H1B H3X.o;go_upto_region 2 with fail
 clear H1t H2X H1B;rw [HWW.o];clear HWW;by_cases h0:g=0
 ·subst h0;have HS2:Hid (Sees W2 p2 m2 xs bk):=HSE.o.below H3X.o;have HFO:Hid (Calls Tryz.prog 30 #[.agg #[.slice p2 m2 c2],zI me] W2 fun e w'=>∃ x,e = .returned (zI x)∧book.FoundIs xs me x∧Below W2.heap.size W2 w'):=book.rfound p2 m2 c2 xs me W2 HS2.o.row (by omega)
  go_wp2_with (first
   | (refine zqw rfl rfl rfl H3t zqu24 ?_)
   | (refine zqw rfl rfl rfl H3k zqu46 ?_)
   | fail)
  refine HFO.o.mono ?_;rintro e w3 ⟨x,rfl,hfo,hb3⟩;have H4t:=shN H3t hb3;have H4k:=shN H3k hb3;have H4X:=shB H3X hb3;have H4B:=shB H3B hb3;have hsw3:W2.heap.size≤w3.heap.size:=hb3.size;clear hb3 H3t H3k H3X H3B;have HSW:Hid (Sees w3 p2 m2 xs bk):=HSE.o.below H4X.o;have hff:=found_first HSW.o.len HSW.o.num hfo;clear hfo HFO HS2;rcases hff with ⟨rfl,hnone⟩ | ⟨k,rfl,hfirst,hkx⟩
  ·have HV:Hid (RepIsP t c me id [] 18):=⟨bk,0,HLI.o,.inr (.inl ⟨rfl,hnone,rfl,rfl⟩)⟩
   clear hnone;go_wp2_with fail;go_ret2;exact ⟨[],18,rfl,HV.o,H4B.o⟩
  ·have HFI:Hid (FirstAt bk me k):=hfirst;have dk:decide ((k:Int)<0)=false:=decide_eq_false (by omega);clear hfirst
   obtain ⟨cb,co,hpp,hcl,hcc⟩:∃ b off,p2=some ⟨b,off,none⟩∧b<w3.heap.size∧∀ i j,i<m2→j<8→w3.cell? ⟨b,off+i*8+j,none⟩=(xs.getD i book.cu0).cs[j]?:=by
    rcases HSW.o.row.2 with h | h
    ·have:=HSW.o.row.1;omega
    ·exact h
   subst hpp;have hkm:k<m2:=by have:=HSW.o.row.1;omega
   have hso:=HSW.o.so k hkx;have y7:w3.cell? ⟨cb,co+k*8+7,none⟩=some (.slice (xs.getD k book.cu0).sp (xs.getD k book.cu0).sn (xs.getD k book.cu0).sc):=hcc k 7 hkm (by decide);have hsm:=load_small HLI.o (bk.getD k cm0) (book.getD_mem (by have:=HSW.o.len;omega));have HOK:Hid (∀ j,j<(bk.getD k cm0).so.length→SoldOk ((bk.getD k cm0).so.getD j so0)):=load_sold HLI.o (bk.getD k cm0) (book.getD_mem (by have:=HSW.o.len;omega));clear hcc;generalize (xs.getD k book.cu0).sp=sp at *;generalize (xs.getD k book.cu0).sn=sn at *;generalize (xs.getD k book.cu0).sc=sc at *;generalize hso2:(bk.getD k cm0).so=S at *;have HSO:Hid ((bk.getD k cm0).so=S):=hso2;clear hso2;have HRS:Hid (book.RowS w3 sp sn S):=hso;have HSL:Hid (S.length=sn):=hso.1;have hsn:sn≤1000000:=by rw [← hso.1];exact hsm
   clear hso hsm HSE HSW HT;have qk0:w3.cell? ⟨w1.heap.size,0,none⟩=some (.slice (some ⟨cb,co,none⟩) m2 c2):=H4k.o.cell 0;go_wp2_with fail;clear qk0 y7 dk;go_loopw [14] (fun z wr=>∃ j:Nat,j≤sn∧z=zI (j:Int)∧(∀ i,i<j→(S.getD i so0).id≠id)∧Below w3.heap.size w3 wr) (fun z _=>sn - (intOf z).toNat)
   case atStart=>exact ⟨0,Nat.zero_le _,rfl,(fun i hi=>absurd hi (Nat.not_lt_zero _)),Below.refl _ _⟩
   case round=>
    obtain ⟨j,hj,rfl,hno,hb⟩:=hrel;have HNO:Hid (∀ i,i<j→(S.getD i so0).id≠id):=hno;have HBR:Hid (Below w3.heap.size w3 wr):=hb;have HBW:=shB H4B hb;by_cases hlt:j<sn
    ·have hdl:decide ((j:Int)<(sn:Int))=true:=by simp;omega
     obtain ⟨sb,so,hpp,sl,hcs⟩:∃ b off,sp=some ⟨b,off,none⟩∧b<w3.heap.size∧∀ i j,i<sn→j<5→w3.cell? ⟨b,off+i*5+j,none⟩=(S.getD i so0).cs[j]?:=by
      rcases HRS.o.2 with h | h
      ·omega
      ·exact h
     subst hpp;have s0:wr.cell? ⟨sb,so+j*5,none⟩=some (zI (S.getD j so0).id):=(hb.cell (p:=⟨sb,so+j*5,none⟩) sl).trans (hcs j 0 hlt (by decide));have s1:wr.cell? ⟨sb,so+j*5+1,none⟩=some (zI (S.getD j so0).cl):=(hb.cell (p:=⟨sb,so+j*5+1,none⟩) sl).trans (hcs j 1 hlt (by decide));have s2:wr.cell? ⟨sb,so+j*5+2,none⟩=some (zI (S.getD j so0).am):=(hb.cell (p:=⟨sb,so+j*5+2,none⟩) sl).trans (hcs j 2 hlt (by decide));have s3:wr.cell? ⟨sb,so+j*5+3,none⟩=some (zI (S.getD j so0).tg):=(hb.cell (p:=⟨sb,so+j*5+3,none⟩) sl).trans (hcs j 3 hlt (by decide));clear hcs hno;have hok:=HOK.o j (by rw [HSL.o];exact hlt);by_cases he:(S.getD j so0).id=id
     ·have hde:((S.getD j so0).id == id)=true:=by simpa using he
      have HFM:Hid (Calls Tryz.prog 31 #[.agg #[zI (S.getD j so0).cl,zI id,zI (S.getD j so0).am,zI (S.getD j so0).tg]] wr.drew fun e w'=>e = .returned (.tuple #[.string (token.fmtB (97*(Tok.mk (S.getD j so0).cl.toNat id.toNat (S.getD j so0).am.toNat (S.getD j so0).tg.toNat).num)),zI 0])∧Below wr.drew.heap.size wr.drew w'):=by
       have h2:=sold_tok hok;rw [he] at h2;have hh:=HKF.o _ wr.drew h2.1;rw [h2.2] at hh;exact hh
      have HV:Hid (RepIsP t c me id (fmtL (97*(Tok.mk (S.getD j so0).cl.toNat id.toNat (S.getD j so0).am.toNat (S.getD j so0).tg.toNat).num)) 0):=⟨bk,0,HLI.o,.inr (.inr ⟨rfl,k,HFI.o,.inr ⟨j,by rw [HSO.o,HSL.o];exact hlt,by rw [HSO.o];exact he,fun i hi=>by rw [HSO.o];exact HNO.o i hi,rfl,by rw [HSO.o]⟩⟩)⟩
      clear hok he;generalize (S.getD j so0).id=si at *;generalize (S.getD j so0).cl=sc1 at *;generalize (S.getD j so0).am=sa at *;generalize (S.getD j so0).tg=st at *;have HFB:Hid (token.fmtB (97*(Tok.mk sc1.toNat id.toNat sa.toNat st.toNat).num)=⟨(fmtL (97*(Tok.mk sc1.toNat id.toNat sa.toNat st.toNat).num)).toArray⟩):=rfl;generalize token.fmtB (97*(Tok.mk sc1.toNat id.toNat sa.toNat st.toNat).num)=TX at *;go_wp2_with fail;have HB0:Hid (Below wr.heap.size wr wr.drew):=(Below.refl _ _).drew;have ls:sb<wr.heap.size:=Nat.lt_of_lt_of_le sl hb.size;refine wp_region_held_drew (S:=fun v=>Below wr.heap.size wr v) (by kernel_rfl) HB0.o (fun hHeld=>?_);refine zqs 0 51 (.slice (some ⟨sb,so,none⟩) sn sc) rfl rfl (by kernel_rfl) zid rfl (fun v hv=>by clear hv;go_simp) hHeld ?_;simp only [zq];refine zqs 1 52 (zI (j:Int)) rfl rfl (by kernel_rfl) zid rfl (fun v hv=>by clear hv;go_simp) hHeld ?_;simp only [zq];refine zqs 2 53 (.pointer (some ⟨sb,so+j*5,none⟩)) rfl rfl (by kernel_rfl) zid rfl (fun v hv=>by clear hv;go_simp) hHeld ?_;simp only [zq];refine zqs 3 54 (.pointer (some ⟨sb,so+j*5+1,none⟩)) rfl rfl (by kernel_rfl) zid rfl (fun v hv=>by clear hv;go_simp) hHeld ?_;simp only [zq];refine zqt 4 55 (zI sc1) rfl rfl (by kernel_rfl) zid (Or.inl ⟨by rfl,fun v hv=>by have g0:=(hv.cell (p:=⟨sb,so+j*5+1,none⟩) ls).trans s1;clear hv;go_simp⟩) hHeld ?_;simp only [zq];refine zqs 5 56 (zI id) rfl rfl (by kernel_rfl) zid rfl (fun v hv=>by clear hv;go_simp) hHeld ?_;simp only [zq];refine zqs 6 57 (.slice (some ⟨sb,so,none⟩) sn sc) rfl rfl (by kernel_rfl) zid rfl (fun v hv=>by clear hv;go_simp) hHeld ?_;simp only [zq];refine zqs 7 58 (zI (j:Int)) rfl rfl (by kernel_rfl) zid rfl (fun v hv=>by clear hv;go_simp) hHeld ?_;simp only [zq];refine zqs 8 59 (.pointer (some ⟨sb,so+j*5,none⟩)) rfl rfl (by kernel_rfl) zid rfl (fun v hv=>by clear hv;go_simp) hHeld ?_;simp only [zq];refine zqs 9 60 (.pointer (some ⟨sb,so+j*5+2,none⟩)) rfl rfl (by kernel_rfl) zid rfl (fun v hv=>by clear hv;go_simp) hHeld ?_
      simp only [zq];refine zqt 10 61 (zI sa) rfl rfl (by kernel_rfl) zid (Or.inl ⟨by rfl,fun v hv=>by have g0:=(hv.cell (p:=⟨sb,so+j*5+2,none⟩) ls).trans s2;clear hv;go_simp⟩) hHeld ?_;simp only [zq];refine zqs 11 62 (.slice (some ⟨sb,so,none⟩) sn sc) rfl rfl (by kernel_rfl) zid rfl (fun v hv=>by clear hv;go_simp) hHeld ?_;simp only [zq];refine zqs 12 63 (zI (j:Int)) rfl rfl (by kernel_rfl) zid rfl (fun v hv=>by clear hv;go_simp) hHeld ?_;simp only [zq];refine zqs 13 64 (.pointer (some ⟨sb,so+j*5,none⟩)) rfl rfl (by kernel_rfl) zid rfl (fun v hv=>by clear hv;go_simp) hHeld ?_;simp only [zq];refine zqs 14 65 (.pointer (some ⟨sb,so+j*5+3,none⟩)) rfl rfl (by kernel_rfl) zid rfl (fun v hv=>by clear hv;go_simp) hHeld ?_;simp only [zq];refine zqt 15 66 (zI st) rfl rfl (by kernel_rfl) zid (Or.inl ⟨by rfl,fun v hv=>by have g0:=(hv.cell (p:=⟨sb,so+j*5+3,none⟩) ls).trans s3;clear hv;go_simp⟩) hHeld ?_;simp only [zq];refine zqs 16 67 (.agg #[zI sc1,zI id,zI sa,zI st]) rfl rfl (by kernel_rfl) zid rfl (fun v hv=>by clear hv;go_simp) hHeld ?_;simp only [zq];refine zqo 17 (by kernel_rfl) rfl (fun K hK=>?_);rw [if_pos (by rfl)];refine wp_callOp 68 rfl (by clear hK;go_simp) HFM.o ?_;rintro e w5 ⟨rfl,hbx⟩;have hb5:Below wr.heap.size wr w5:=bel_step HB0.o hbx;have HBF:=shB HBW hb5;refine ⟨_,rfl,hK.o _ _ hb5 (fun hHeld=>?_)⟩;clear hK K hbx HFM s0 s1 s2 s3;simp only [zq];refine zqs 18 50 (.tuple #[.string TX,zI 0]) rfl rfl (by kernel_rfl) zid rfl (fun v hv=>by clear hv;go_simp) hHeld ?_;simp only [zq];refine zqs 19 69 (.string TX) rfl rfl (by kernel_rfl) zid rfl (fun v hv=>by clear hv;go_simp) hHeld ?_;simp only [zq];refine zqs 20 70 (zI 0) rfl rfl (by kernel_rfl) zid rfl (fun v hv=>by clear hv;go_simp) hHeld ?_;simp only [zq];refine zqs 21 15 (.string TX) rfl rfl (by kernel_rfl) zid rfl (fun v hv=>by clear hv;go_simp) hHeld ?_;simp only [zq];refine zqs 22 16 (zI 0) rfl rfl (by kernel_rfl) zid rfl (fun v hv=>by clear hv;go_simp) hHeld ?_
      simp only [zq];refine wpAnyH_done (by kernel_rfl) ?_ _;clear hHeld hb5;go_wp2_with fail;go_ret2;exact ⟨fmtL (97*(Tok.mk sc1.toNat id.toNat sa.toNat st.toNat).num),0,by (rw [HFB.o];rfl),HV.o,HBF.o⟩
     ·have hde:((S.getD j so0).id == id)=false:=by simpa using he
      have HN2:Hid (∀ i,i<j+1→(S.getD i so0).id≠id):=fun i hi=>by
       by_cases e:i=j
       ·subst e;exact he
       ·exact HNO.o i (by omega)
      clear hok he;generalize (S.getD j so0).id=si at *;go_wp2_with fail;go_roundw
      case rel=>exact ⟨j+1,by omega,by go_num,HN2.o,HBR.o⟩
      case measure=>simp [intOf];omega
    ·obtain rfl:j=sn:=by omega
     have hdl:decide ((j:Int)<(j:Int))=false:=by simp
     have HV:Hid (RepIsP t c me id [] 22):=⟨bk,0,HLI.o,.inr (.inr ⟨rfl,k,HFI.o,.inl ⟨fun i hi=>by rw [HSO.o] at hi ⊢;exact HNO.o i (by rw [HSL.o] at hi;exact hi),rfl,rfl⟩⟩)⟩
     clear hno hb;go_wp2_with fail;go_ret2;exact ⟨[],22,rfl,HV.o,HBW.o⟩
 ·have d0:(g != 0)=true:=by simpa using h0
  have HV:Hid (RepIsP t c me id [] g):=⟨bk,g,HLI.o,.inl ⟨h0,rfl,rfl⟩⟩
  clear h0;go_wp2_with fail;go_ret2;exact ⟨[],g,rfl,HV.o,H3B.o⟩
theorem VendReprints_walk {w:World} (K:KvRpr w) (t:Tm) (pt:Option Addr) (lt ct:Nat) (a:Option Addr) (n cap:Nat) (c:List Int) (me id:Int) (ht:acc.TCame w t pt lt ct) (h:Dk w a n cap c) (KF:KFm) (hme:(Lit.int .i64 me).wf=true) (hid:(Lit.int .i64 id).wf=true):Calls Tryz.prog 3 #[t.v pt lt ct,.slice a n cap,zI me,zI id] w fun e w'=>e = .returned (.bool true)∧Below w.heap.size w w':=by
 have HC:Hid (∀ W,Below w.heap.size w W→Dk W a n cap c):=fun W hW=>h.below hW;have HT:Hid (∀ W,Below w.heap.size w W→acc.TCame W t pt lt ct):=fun W hW=>ht.below hW;have HWF:Hid (acc.wf4 t):=ht.wf;have HN:Hid (c.length=n):=h.row.1;have HNM:Hid (n≤maxLen):=by show n≤maxLen;have:=h.bytes;unfold maxLen;omega
 have HKK:Hid (KvRpr w):=K;have HKF:Hid KFm:=KF;clear KF;unfold acc.Tm.v;clear h ht K;obtain ⟨W0,HWW,H0t,H0B,hs0⟩:=sh1 w #[.slice pt lt ct,zI t.ff,zI t.fb,zI t.db,zI t.al] 24;go_enter Tryz.func3,Tryz.ntmps3;go_upto_region 1 with fail
 rw [HWW.o];clear HWW;have HWD:Hid (Calls Tryz.prog 9 #[.slice a n cap] W0 fun e w'=>cell.GaveU W0 c e w'):=cell.words_any a n cap c W0 (HC.o _ H0B.o).row (HC.o _ H0B.o).nil (HC.o _ H0B.o).bytes
 go_wp2_with (first
  | (refine zqw rfl rfl rfl H0t zqu24 ?_)
  | (refine wp_wholeG (by rfl) 24 _ rfl (w.heap.size) rfl 24 #[.slice pt lt ct,zI t.ff,zI t.fb,zI t.db,zI t.al] _ H0t.o Tryz.underlying24 rfl (by kernel_rfl) ?_)
  | fail)
 refine HWD.o.mono ?_;rintro e w1 ⟨v1,rfl,hws,hb1⟩;have H1t:=shN H0t hb1;have H1B:=shB H0B hb1;have hsw1:W0.heap.size≤w1.heap.size:=hb1.size;clear hb1 H0t H0B;obtain ⟨a1,cap1,rfl,hd,hnn,hle⟩:=hws.row;rw [HN.o] at hd hle ⊢;have HD1:Hid (Dk w1 a1 n cap1 c):=⟨hd,hnn,hle,(HC.o _ H1B.o).bytes,(HC.o _ H1B.o).wd⟩
 clear hd hnn hle hws HWD;have H2P:Hid (Below w1.heap.size w1 w1):=Below.refl _ _;have HTE:Hid (Calls Tryz.prog 11 #[.agg #[.slice pt lt ct,zI t.ff,zI t.fb,zI t.db,zI t.al]] w1 fun e w'=>∃ p' cap',e = .returned (t.v p' lt cap')∧deb.Fresh w' w1.heap.size p' lt cap' t.ts∧Below w1.heap.size w1 w'):=acc.terms_any t pt lt ct w1 (HT.o _ H1B.o)
 go_wp2_with (first
  | (refine zqw rfl rfl rfl H1t zqu24 ?_)
  | (refine wp_wholeG (by rfl) 24 _ rfl (w.heap.size) rfl 24 #[.slice pt lt ct,zI t.ff,zI t.fb,zI t.db,zI t.al] _ H1t.o Tryz.underlying24 rfl (by kernel_rfl) ?_)
  | fail)
 refine HTE.o.mono ?_;rintro e w2 ⟨p2,c2,rfl,hf2,hb2⟩;have H3t:=shN H1t hb2;have H3P:=shB H2P hb2;have H3B:=shB H1B hb2;have hsw2:w1.heap.size≤w2.heap.size:=hb2.size;clear hb2 H1t H2P H1B;unfold acc.Tm.v;have HKL:Hid (Calls Tryz.prog 10 #[.agg #[.slice p2 lt c2,zI t.ff,zI t.fb,zI t.db,zI t.al],.slice a1 n cap1,zI me,zI id] w2 fun e w'=>RprPost w2 (RepIsP t c me id) e w'):=HKK.o w2 t p2 lt c2 a1 n cap1 c me id H3B.o ⟨hf2.came,HWF.o⟩ (HD1.o.below H3P.o) hme hid;clear hf2 HTE HKK hme hid
 go_wp2_with (first
  | (refine zqw rfl rfl rfl H3t zqu24 ?_)
  | (refine wp_wholeG (by rfl) 24 _ rfl (w.heap.size) rfl 24 #[.slice pt lt ct,zI t.ff,zI t.fb,zI t.db,zI t.al] _ H3t.o Tryz.underlying24 rfl (by kernel_rfl) ?_)
  | fail)
 refine HKL.o.mono ?_;rintro e w3 ⟨l,f,rfl,hri,hb3⟩;have H4t:=shN H3t hb3;have H4P:=shB H3P hb3;have H4B:=shB H3B hb3;have hsw3:w2.heap.size≤w3.heap.size:=hb3.size;clear hb3 H3t H3P H3B;have HRI:Hid (RepIsP t c me id l f):=hri;clear hri HKL;have HRL:Hid (Calls Tryz.prog 12 #[.agg #[.slice pt lt ct,zI t.ff,zI t.fb,zI t.db,zI t.al],.slice a n cap,zI me,zI id] w3 fun e w'=>RprPost w3 (RepIsP t c me id) e w'):=rreprint t pt lt ct a n cap c me id w3 HKF.o (HT.o _ H4B.o).ts (HC.o _ H4B.o).row (HC.o _ H4B.o).wd
 go_wp2_with (first
  | (refine zqw rfl rfl rfl H4t zqu24 ?_)
  | (refine wp_wholeG (by rfl) 24 _ rfl (w.heap.size) rfl 24 #[.slice pt lt ct,zI t.ff,zI t.fb,zI t.db,zI t.al] _ H4t.o Tryz.underlying24 rfl (by kernel_rfl) ?_)
  | fail)
 refine HRL.o.mono ?_;rintro e w5 ⟨l2,f2,rfl,hri,hb5⟩;have H5t:=shN H4t hb5;have H5P:=shB H4P hb5;have H5B:=shB H4B hb5;have hsw5:w3.heap.size≤w5.heap.size:=hb5.size;clear hb5 H4t H4P H4B;obtain ⟨hll,hff⟩:=HRI.o.one hri;subst hll hff;clear hri HRL;have ef:(f == f)=true:=by simp
 generalize (⟨l.toArray⟩:ByteArray)=X at *;have ex:(X.toList == X.toList)=true:=by simp
 have HSW:Hid (Calls Tryz.prog 13 #[.slice a n cap,.slice a1 n cap1] w5 fun e w'=>e = .returned (.bool true)∧Below w5.heap.size w5 w'):=cell.words_law a a1 n cap cap1 c w5 (HC.o _ H5B.o).row (HD1.o.below H5P.o).row HNM.o
 go_wp2_with (first
  | (refine zqw rfl rfl rfl H5t zqu24 ?_)
  | (refine wp_wholeG (by rfl) 24 _ rfl (w.heap.size) rfl 24 #[.slice pt lt ct,zI t.ff,zI t.fb,zI t.db,zI t.al] _ H5t.o Tryz.underlying24 rfl (by kernel_rfl) ?_)
  | fail)
 refine HSW.o.mono ?_;rintro e w8 ⟨rfl,hb8⟩;have H6t:=shN H5t hb8;have H6P:=shB H5P hb8;have H6B:=shB H5B hb8;have hsw8:w5.heap.size≤w8.heap.size:=hb8.size;clear hb8 H5t H5P H5B;go_wp2_with fail;go_ret;exact ⟨rfl,H6B.o⟩
end vnd
end Go.Proofs.YtnpblpbohcegoaaGreatDoor
