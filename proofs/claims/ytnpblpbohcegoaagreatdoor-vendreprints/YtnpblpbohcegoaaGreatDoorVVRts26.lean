import Derived.Test.YtnpblpbohcegoaaGreatDoorVVRts11
import Derived.Test.YtnpblpbohcegoaaGreatDoorVVRts15
import Derived.Test.YtnpblpbohcegoaaGreatDoorVVRts25
set_option linter.unusedVariables false
set_option linter.unusedSimpArgs false
set_option maxHeartbeats 4000000
set_option maxRecDepth 100000
namespace Go.Proofs.YtnpblpbohcegoaaGreatDoor
namespace tar
open Go.RowKit
theorem rmost (a:Option Addr) (len cap:Nat) (ls:List Du) (x m:Int) (w:World) (hr:RowD w a len ls) (hl:len≤maxLen):Calls Tryz.prog 178 #[.slice a len cap,zI x,zI m] w fun e w'=>ThreePost w (MostIs ls x m) e w':=by
 have HMY:Hid (Calls Tryz.prog 197 #[.slice a len cap,zI x,zI 0] w fun e w'=>ErrPost w (MayIs ls x 0) e w'):=rmay a len cap ls x 0 w hr hl;have HIM:Hid (∀ W,Calls Tryz.prog 101 #[zI m,zI 0,zI 1000000000000] W fun e w'=>e = .returned (.bool (decide (0≤m∧m≤1000000000000)))∧w'=W):=fun W=>cal.cin m 0 1000000000000 W;go_enter Tryz.func178,Tryz.ntmps178;go_wp2_with fail;refine HMY.o.mono ?_;rintro e w1 ⟨f,rfl,hf,hb⟩;have HB:Hid (Below w.heap.size w w1):=hb;by_cases h0:f=0
 ·subst h0;have hm:=hf.ok.1 rfl;have hx0:=hm.2.1.1;have hx1:=hm.2.1.2;have HR:Hid (Right ls):=hm.1;have HCO:Hid (∀ (u:Nat) W,Below w1.heap.size w1 W→x+(u:Int)≤10000000→Calls Tryz.prog 198 #[.slice a len cap,zI x,zI (x+(u:Int))] W fun e w'=>ValPost W (cost ls x (x+(u:Int))) e w'):=fun u W hW hu=>rcost a len cap ls x (x+(u:Int)) W ((hr.below hb).below hW) hm.1 hx0 (by omega) hu;clear hf hb hr hl HMY;by_cases hmm:0≤m∧m≤1000000000000
  ·rw [decide_eq_true hmm] at HIM;have HMM:Hid (MayMost x m):=⟨⟨hx0,hx1⟩,hmm⟩
   obtain ⟨hm0,hm1⟩:=hmm;obtain ⟨T,hT⟩:∃ T:Nat,Top x=(T:Int):=⟨(Top x).toNat,by unfold Top;omega⟩
   have HT:Hid (Top x=(T:Int)):=hT;have hT1:(T:Int)=2097151∨(T:Int)=10000000 - x:=by unfold Top at hT;omega
   have hT2:x+(T:Int)≤10000000:=by unfold Top at hT;omega
   have hT3:(T:Int)≤2097151:=by unfold Top at hT;omega
   have HZ:Hid (cost ls x (x+((0:Nat):Int))≤m):=by show _≤_;rw [show x+((0:Nat):Int)=x by omega,cost_self HR.o];exact hm0
   clear hm;go_wp2_with fail;refine (HIM.o _).mono ?_;rintro e w2 ⟨rfl,hw2⟩;subst hw2;clear HIM;by_cases hd:10000000 - x<2097151
   ·have hdd:decide (10000000 - x<2097151)=true:=decide_eq_true hd;have HTE:Hid (10000000 - x=(T:Int)):=by show _=_;unfold Top at hT;omega
    clear hT hT1;go_wp2_with fail;go_loopw [10,11] (fun u v wr=>∃ l h:Nat,l≤h∧h≤T∧u=zI (l:Int)∧v=zI (h:Int)∧cost ls x (x+(l:Int))≤m∧(h=T∨m<cost ls x (x+((h:Int)+1)))∧Below w2.heap.size w2 wr) (fun u v _=>(intOf v).toNat - (intOf u).toNat)
    case atStart=>exact ⟨0,T,Nat.zero_le _,Nat.le_refl _,rfl,by rw [← HTE.o],HZ.o,.inl rfl,Below.refl _ _⟩
    case round=>
     obtain ⟨l,h,hlh,hh,rfl,rfl,hc1,hc2,hbw⟩:=hrel;have HC1:Hid (cost ls x (x+(l:Int))≤m):=hc1;have HC2:Hid (h=T∨m<cost ls x (x+((h:Int)+1))):=hc2;have HBW:Hid (Below w2.heap.size w2 wr):=hbw;clear hc1 hc2 hbw;by_cases hlt:l<h
     ·have hdl:decide ((l:Int)<(h:Int))=true:=by simp;omega
      have hq:Int.tdiv ((l:Int)+(h:Int)+1) 2=(((l+h+1) / 2:Nat):Int):=by rw [Int.tdiv_eq_ediv_of_nonneg (by omega)];omega
      have hm1:l<(l+h+1) / 2:=by omega
      have hm2:(l+h+1) / 2≤h:=by omega
      generalize (l+h+1) / 2=d at *;have HCD:Hid (Calls Tryz.prog 198 #[.slice a len cap,zI x,zI (x+(d:Int))] wr fun e w'=>ValPost wr (cost ls x (x+(d:Int))) e w'):=HCO.o d wr HBW.o (by omega);by_cases hle:cost ls x (x+(d:Int))≤m
      ·have HLE:Hid (cost ls x (x+(d:Int))≤m):=hle;have hdc:decide (cost ls x (x+(d:Int))≤m)=true:=decide_eq_true hle;clear hle;generalize hce:cost ls x (x+(d:Int))=c at *;have HCE:Hid (cost ls x (x+(d:Int))=c):=hce;clear hce;go_wp2_with fail;refine HCD.o.mono ?_;rintro e w3 ⟨rfl,hb3⟩;have HB3:=shB HBW hb3;clear hb3 HCD;go_wp2_with fail;go_roundw
       case rel=>exact ⟨d,h,hm2,hh,rfl,rfl,by rw [HCE.o];exact HLE.o,HC2.o,HB3.o⟩
       case measure=>simp only [intOf];omega
      ·have HLE:Hid (m<cost ls x (x+(((d - 1:Nat):Int)+1))):=by show _<_;rw [show (((d - 1:Nat):Int)+1)=(d:Int) by omega];omega
       have hdc:decide (cost ls x (x+(d:Int))≤m)=false:=decide_eq_false hle;have hds:(d:Int) - 1=((d - 1:Nat):Int):=by omega
       clear hle;have hd1:l≤d - 1:=by omega
       have hd2:d - 1≤T:=by omega
       have hd3:d - 1<h:=by omega
       generalize d - 1=d1 at *;generalize cost ls x (x+(d:Int))=c at *;go_wp2_with fail;refine HCD.o.mono ?_;rintro e w3 ⟨rfl,hb3⟩;have HB3:=shB HBW hb3;clear hb3 HCD;go_wp2_with fail;go_roundw
       case rel=>exact ⟨l,d1,hd1,hd2,rfl,by first | rfl | (rw [hds]) | go_num,HC1.o,.inr HLE.o,HB3.o⟩
       case measure=>simp only [intOf];omega
     ·obtain rfl:l=h:=by omega
      have hdl:decide ((l:Int)<(l:Int))=false:=by simp
      have HCD:Hid (Calls Tryz.prog 198 #[.slice a len cap,zI x,zI (x+(l:Int))] wr fun e w'=>ValPost wr (cost ls x (x+(l:Int))) e w'):=HCO.o l wr HBW.o (by omega);have HV:Hid (MostIs ls x m (l:Int) (cost ls x (x+(l:Int))) 0):= .inr (.inr ⟨HR.o,HMM.o,rfl,⟨⟨by omega,by rw [HT.o];omega⟩,HC1.o,by rcases HC2.o with h9 | h9;exact .inl (by rw [HT.o];omega);exact .inr h9⟩,rfl⟩);clear HC1 HC2;generalize cost ls x (x+(l:Int))=c at *;go_wp2_with fail;refine HCD.o.mono ?_;rintro e w3 ⟨rfl,hb3⟩;have HB3:Hid (Below w.heap.size w w3):=HB.o.trans ((HBW.o.trans (hb3.mono HBW.o.size)).mono HB.o.size);clear hb3 HCD;go_wp2_with fail;go_ret3;exact ⟨_,_,_,rfl,HV.o,HB3.o⟩
   ·have hdd:decide (10000000 - x<2097151)=false:=decide_eq_false hd;have HTE:Hid (2097151=(T:Int)):=by show _=_;unfold Top at hT;omega
    clear hT hT1;go_wp2_with fail;go_loopw [10,11] (fun u v wr=>∃ l h:Nat,l≤h∧h≤T∧u=zI (l:Int)∧v=zI (h:Int)∧cost ls x (x+(l:Int))≤m∧(h=T∨m<cost ls x (x+((h:Int)+1)))∧Below w2.heap.size w2 wr) (fun u v _=>(intOf v).toNat - (intOf u).toNat)
    case atStart=>exact ⟨0,T,Nat.zero_le _,Nat.le_refl _,rfl,by rw [← HTE.o],HZ.o,.inl rfl,Below.refl _ _⟩
    case round=>
     obtain ⟨l,h,hlh,hh,rfl,rfl,hc1,hc2,hbw⟩:=hrel;have HC1:Hid (cost ls x (x+(l:Int))≤m):=hc1;have HC2:Hid (h=T∨m<cost ls x (x+((h:Int)+1))):=hc2;have HBW:Hid (Below w2.heap.size w2 wr):=hbw;clear hc1 hc2 hbw;by_cases hlt:l<h
     ·have hdl:decide ((l:Int)<(h:Int))=true:=by simp;omega
      have hq:Int.tdiv ((l:Int)+(h:Int)+1) 2=(((l+h+1) / 2:Nat):Int):=by rw [Int.tdiv_eq_ediv_of_nonneg (by omega)];omega
      have hm1:l<(l+h+1) / 2:=by omega
      have hm2:(l+h+1) / 2≤h:=by omega
      generalize (l+h+1) / 2=d at *;have HCD:Hid (Calls Tryz.prog 198 #[.slice a len cap,zI x,zI (x+(d:Int))] wr fun e w'=>ValPost wr (cost ls x (x+(d:Int))) e w'):=HCO.o d wr HBW.o (by omega);by_cases hle:cost ls x (x+(d:Int))≤m
      ·have HLE:Hid (cost ls x (x+(d:Int))≤m):=hle;have hdc:decide (cost ls x (x+(d:Int))≤m)=true:=decide_eq_true hle;clear hle;generalize hce:cost ls x (x+(d:Int))=c at *;have HCE:Hid (cost ls x (x+(d:Int))=c):=hce;clear hce;go_wp2_with fail;refine HCD.o.mono ?_;rintro e w3 ⟨rfl,hb3⟩;have HB3:=shB HBW hb3;clear hb3 HCD;go_wp2_with fail;go_roundw
       case rel=>exact ⟨d,h,hm2,hh,rfl,rfl,by rw [HCE.o];exact HLE.o,HC2.o,HB3.o⟩
       case measure=>simp only [intOf];omega
      ·have HLE:Hid (m<cost ls x (x+(((d - 1:Nat):Int)+1))):=by show _<_;rw [show (((d - 1:Nat):Int)+1)=(d:Int) by omega];omega
       have hdc:decide (cost ls x (x+(d:Int))≤m)=false:=decide_eq_false hle;have hds:(d:Int) - 1=((d - 1:Nat):Int):=by omega
       clear hle;have hd1:l≤d - 1:=by omega
       have hd2:d - 1≤T:=by omega
       have hd3:d - 1<h:=by omega
       generalize d - 1=d1 at *;generalize cost ls x (x+(d:Int))=c at *;go_wp2_with fail;refine HCD.o.mono ?_;rintro e w3 ⟨rfl,hb3⟩;have HB3:=shB HBW hb3;clear hb3 HCD;go_wp2_with fail;go_roundw
       case rel=>exact ⟨l,d1,hd1,hd2,rfl,by first | rfl | (rw [hds]) | go_num,HC1.o,.inr HLE.o,HB3.o⟩
       case measure=>simp only [intOf];omega
     ·obtain rfl:l=h:=by omega
      have hdl:decide ((l:Int)<(l:Int))=false:=by simp
      have HCD:Hid (Calls Tryz.prog 198 #[.slice a len cap,zI x,zI (x+(l:Int))] wr fun e w'=>ValPost wr (cost ls x (x+(l:Int))) e w'):=HCO.o l wr HBW.o (by omega);have HV:Hid (MostIs ls x m (l:Int) (cost ls x (x+(l:Int))) 0):= .inr (.inr ⟨HR.o,HMM.o,rfl,⟨⟨by omega,by rw [HT.o];omega⟩,HC1.o,by rcases HC2.o with h9 | h9;exact .inl (by rw [HT.o];omega);exact .inr h9⟩,rfl⟩);clear HC1 HC2;generalize cost ls x (x+(l:Int))=c at *;go_wp2_with fail;refine HCD.o.mono ?_;rintro e w3 ⟨rfl,hb3⟩;have HB3:Hid (Below w.heap.size w w3):=HB.o.trans ((HBW.o.trans (hb3.mono HBW.o.size)).mono HB.o.size);clear hb3 HCD;go_wp2_with fail;go_ret3;exact ⟨_,_,_,rfl,HV.o,HB3.o⟩
  ·rw [decide_eq_false hmm] at HIM;have HV:Hid (MostIs ls x m 0 0 2):= .inr (.inl ⟨HR.o,fun h=>hmm h.2,rfl,rfl,rfl⟩);clear hmm hm;go_wp2_with fail;refine (HIM.o _).mono ?_;rintro e w2 ⟨rfl,hw2⟩;subst hw2;go_wp2_with fail;go_ret3;exact ⟨_,_,_,rfl,HV.o,HB.o⟩
 ·have hne:(f != 0)=true:=by simpa using h0
  have HV:Hid (MostIs ls x m 0 0 f):=by
   rcases hf with ⟨p,q⟩ | ⟨p,q,r⟩ | ⟨p,q,r⟩
   ·exact .inl ⟨p,q,rfl,rfl⟩
   ·exact .inr (.inl ⟨p,fun h=>q ⟨h.1,⟨by decide,by decide⟩,by have:=h.1.2;omega⟩,r,rfl,rfl⟩)
   ·exact absurd r h0
  clear hf h0 hb hr hl HMY;go_wp2_with fail;go_ret3;exact ⟨_,_,_,rfl,HV.o,HB.o⟩
end tar
namespace acc
open tar (Du du0 Came RowD Ld PairT)
open Go.RowKit
theorem psell (g:Nat) (x:Ac) (p:Option Addr) (len cap:Nat) (t:Tm) (pt:Option Addr) (lt ct:Nat) (te m:Int) (w:World) (hw:Blk w g (wcs x bi0 p len cap) 252) (hd:deb.Fresh w (g+1) p len cap x.ds) (ha:AMay x) (ht:Came w pt lt ct t.ts) (hwf:wf4 t) (hfar:Far pt lt g):Calls Tryz.prog 127 #[.pointer (some ⟨g,0,none⟩),.agg #[.slice pt lt ct,zI t.ff,zI t.fb,zI t.db,zI t.al],zI te,zI m] w fun e w'=>DPost w g (Or0 (SellIs x t te m)) e w':=by
 have HIT:Hid (∀ W,Calls Tryz.prog 69 #[zI 1,zI 100000000,zI te] W fun e w'=>e = .returned (.bool (decide (1≤te∧te≤100000000)))∧w'=W):=fun W=>awithin 1 100000000 te W;have hgl:=hw.lt;have H0B:Hid (Below w.heap.size w (w.alloc (.cells #[.slice pt lt ct,zI t.ff,zI t.fb,zI t.db,zI t.al] 24))):=(Below.refl w.heap.size w).alloc (by simp) _;have H0C:Hid (Chg w (w.alloc (.cells #[.slice pt lt ct,zI t.ff,zI t.fb,zI t.db,zI t.al] 24)) g):= .of H0B.o;have H0t:Hid (Blk (w.alloc (.cells #[.slice pt lt ct,zI t.ff,zI t.fb,zI t.db,zI t.al] 24)) (w.heap.size) #[.slice pt lt ct,zI t.ff,zI t.fb,zI t.db,zI t.al] 24):=Blk.new w _ _;have H0g:Hid (Blk (w.alloc (.cells #[.slice pt lt ct,zI t.ff,zI t.fb,zI t.db,zI t.al] 24)) g (wcs x bi0 p len cap) 252):=hw.alloc _;have H0D:Hid (deb.Fresh (w.alloc (.cells #[.slice pt lt ct,zI t.ff,zI t.fb,zI t.db,zI t.al] 24)) (g+1) p len cap x.ds):=hd.below H0B.o;have H0T:Hid (Came (w.alloc (.cells #[.slice pt lt ct,zI t.ff,zI t.fb,zI t.db,zI t.al] 24)) pt lt ct t.ts):=ht.below H0B.o;have HFAR:Hid (Far pt lt g):=hfar;have HBG:Hid (∀ W,Blk W g (wcs x bi0 p len cap) 252→deb.Fresh W (g+1) p len cap x.ds→Came W pt lt ct t.ts→Calls Tryz.prog 160 #[.pointer (some ⟨g,0,none⟩),.agg #[.slice pt lt ct,zI t.ff,zI t.fb,zI t.db,zI t.al],zI m] W fun e w'=>DPost W g (BeginR x t m bi0) e w'):=fun W h1 h2 h3=>pbegin g x p len cap t pt lt ct bi0 m W h1 h2 ha h3 hwf hfar;have HM:Hid (AMay x):=ha;have hnx:=ha.2.2.2.1;clear hw hd ht hwf hfar ha H0B;generalize hWW:(w.alloc (.cells #[.slice pt lt ct,zI t.ff,zI t.fb,zI t.db,zI t.al] 24))=W0 at *;have HWW:Hid ((w.alloc (.cells #[.slice pt lt ct,zI t.ff,zI t.fb,zI t.db,zI t.al] 24))=W0):=hWW;clear hWW;go_enter Tryz.func127,Tryz.ntmps127;go_upto_region 1 with fail
 rw [HWW.o];clear HWW;go_wp2_with (first | (refine zqw rfl rfl rfl H0t zqu24 ?_) | fail)
 refine (HBG.o _ H0g.o H0D.o H0T.o).mono ?_;rintro e w1 ⟨y,b2,q,n,c,f,rfl,⟨hr,hb2⟩,hi1,hf1,hc1⟩;subst hb2;have H1D:Hid (deb.Fresh w1 (g+1) q n c y.ds):=hf1;have H1g:Hid (Blk w1 g #[zI y.me,zI y.rv,zI y.nx,zI y.mo,zI y.bo,zI y.fr,.slice q n c,zI 0,zI 0,zI 0,zI 0,zI 0,zI 0,zI 0] 252):=hi1;have H1t:Hid (Blk w1 (w.heap.size) #[.slice pt lt ct,zI t.ff,zI t.fb,zI t.db,zI t.al] 24):=Chg.keep (g:=g) (hc1) H0t.o (by omega);have H1T:Hid (Came w1 pt lt ct t.ts):=came_chg H0T.o (hc1) HFAR.o;have H1C:Hid (Chg w w1 g):=H0C.o.trans (hc1);clear H0C H0g H0t H0T hf1 hc1 hi1 H0D HBG;by_cases h0:f=0
 ·skip
  subst h0
  have hrr:TRight t∧RMay x m∧y=rolled x m:=by
   rcases hr with ⟨h1,h2,_⟩ | ⟨_,_,h3,_⟩ | ⟨h1,h2,h3,_⟩
   ·exact absurd (h2.ok.1 rfl) h1
   ·exact absurd rfl h3.ne
   ·exact ⟨h1,h2,h3⟩
  have HRY:Hid (Ready x t m):=⟨HM.o,hrr.1,hrr.2.1⟩
  have HT:Hid (TRight t):=hrr.1;have HBR:Hid (y=rolled x m):=hrr.2.2;have hbs:=rolled_same x m;rw [← hrr.2.2] at hbs;have hbo:=(rolled_may HM.o hrr.2.1).2.2.2.2.2.1;rw [← hrr.2.2] at hbo;have hdm:deb.Mays y.ds:=by rw [hrr.2.2];exact (rolled_may HM.o hrr.2.1).1
  have HYN:Hid (y.nx=x.nx):=hbs.2.2.1;have hyx:1≤y.nx∧y.nx≤1048576:=by rw [hbs.2.2.1];exact hnx
  have HBS:Hid (y.me=x.me∧y.rv=x.rv∧y.nx=x.nx∧y.mo=m∧y.fr=x.fr):=hbs;clear hrr hr hbs;by_cases h5:1≤te∧te≤100000000
  ·rw [decide_eq_true h5] at HIT;go_wp2_with fail;refine (HIT.o _).mono ?_;rintro e wz ⟨rfl,hwz⟩;subst wz;clear HIT;go_wp2_with fail;have htok:=HT.o.2;have HTM:Hid (deb.TMay te t.db):=⟨⟨by omega,h5.2⟩,htok.2.2.1⟩
   have HRE:Hid (Calls Tryz.prog 164 #[.slice q n c,zI te,zI t.db] w1.drew fun e w'=>deb.RecPost w1.drew y.ds te t.db e w'):=deb.krec _ q n c y.ds te t.db (fresh_drew H1D.o).came (tar.wf_mid (by omega) (by omega)) (tar.wf_mid htok.2.2.1.1 (by have:=htok.2.2.1.2;omega));have HPA:Hid (∀ W,Calls Tryz.prog 165 #[zI te,zI t.fb] W fun e w'=>e = .returned (.tuple #[zI (te*t.fb / 10000),zI 0])∧Below W.heap.size W w'):=fun W=>cents.part_yes te t.fb W (by omega) (by omega) htok.2.1.1 htok.2.1.2;have hpb:=deb.share_bd (t:=te) (bp:=t.fb) ⟨⟨by omega,h5.2⟩,htok.2.1⟩;have hsb:=deb.share_bd HTM.o;refine wp_region_held_drew (S:=fun v=>Blk v (g) #[zI y.me,zI y.rv,zI y.nx,zI y.mo,zI y.bo,zI y.fr,.slice q n c,zI 0,zI 0,zI 0,zI 0,zI 0,zI 0,zI 0] 252∧Blk v (w.heap.size) #[.slice pt lt ct,zI t.ff,zI t.fb,zI t.db,zI t.al] 24) (by kernel_rfl) ⟨Blk.drew H1g.o 1,Blk.drew H1t.o 1⟩ (fun hHeld=>?_);refine zqs 0 31 (.pointer (some ⟨g,0,none⟩)) rfl rfl (by kernel_rfl) zid rfl (fun v hv=>by clear hv;go_simp) hHeld ?_;simp only [zq];refine zqs 1 32 (.pointer (some ⟨g,0,none⟩)) rfl rfl (by kernel_rfl) zid rfl (fun v hv=>by clear hv;go_simp) hHeld ?_;simp only [zq];refine zqs 2 33 (.pointer (some ⟨g,0,none⟩)) rfl rfl (by kernel_rfl) zid rfl (fun v hv=>by clear hv;go_simp) hHeld ?_;simp only [zq];refine zqs 3 34 (.pointer (some ⟨g,6,none⟩)) rfl rfl (by kernel_rfl) zid rfl (fun v hv=>by clear hv;go_simp) hHeld ?_;simp only [zq];refine zqt 4 35 (.slice q n c) rfl rfl (by kernel_rfl) zid (Or.inl ⟨by rfl,fun v hv=>by have g0:=hv.1.cell 6;clear hv;go_simp⟩) hHeld ?_;simp only [zq];refine zqs 5 36 (zI te) rfl rfl (by kernel_rfl) zid rfl (fun v hv=>by clear hv;go_simp) hHeld ?_;simp only [zq];refine zqs 6 37 (.pointer (some ⟨w.heap.size,3,none⟩)) rfl rfl (by kernel_rfl) zid rfl (fun v hv=>by clear hv;go_simp) hHeld ?_;simp only [zq];refine zqt 7 38 (zI t.db) rfl rfl (by kernel_rfl) zid (Or.inl ⟨by rfl,fun v hv=>by have g0:=hv.2.cell 3;clear hv;go_simp⟩) hHeld ?_
   simp only [zq];refine zqo 8 (by kernel_rfl) rfl (fun K hK=>?_);rw [if_pos (by rfl)];refine wp_callOp 39 rfl (by clear hK;go_simp) HRE.o ?_;rintro e w5 ⟨pz,lz,cz,z,pd,fz,rfl,hi5,hf5,hb5⟩;obtain ⟨rfl,hz,hpd⟩:=hi5.got hdm HTM.o;have HZF:Hid (deb.Fresh w5 (g+1) pz lz cz z):=hf5.low (by show g+1≤w1.heap.size;have:=H1g.o.lt;omega);have hT0:=(deb.sumD_pos (deb.mem_fits hdm.2)).1;have hpd0:0≤pd:=by rw [hpd];omega
   have hpd1:pd≤100000000:=by rw [hpd];omega
   have HPD:Hid (pd=paid x t te m):=by show _=_;rw [hpd];unfold paid share;rw [← HBR.o]
   have HZV:Hid (z=deb.recK (rolled x m).ds (share t te) (rolled x m).ds.length):=by show _=_;rw [hz];unfold share;rw [← HBR.o]
   have HFE:Hid (t.ff+te*t.fb / 10000=fee t te):=rfl;clear hpd hz hT0 hi5 hf5;have H2g:Hid (Blk w5 g #[zI y.me,zI y.rv,zI y.nx,zI y.mo,zI y.bo,zI y.fr,.slice q n c,zI 0,zI 0,zI 0,zI 0,zI 0,zI 0,zI 0] 252):=(Blk.drew H1g.o 1).next hb5;have H2t:Hid (Blk w5 (w.heap.size) #[.slice pt lt ct,zI t.ff,zI t.fb,zI t.db,zI t.al] 24):=Chg.keep (g:=g) ((Chg.of (bel_drew (Below.refl _ _) 1)).trans (.of hb5)) H1t.o (by omega);have H2T:Hid (Came w5 pt lt ct t.ts):=came_chg H1T.o ((Chg.of (bel_drew (Below.refl _ _) 1)).trans (.of hb5)) HFAR.o;have H2D:Hid (deb.Fresh w5 (g+1) q n c y.ds):=fresh_chg H1D.o ((Chg.of (bel_drew (Below.refl _ _) 1)).trans (.of hb5));have H2C:Hid (Chg w w5 g):=H1C.o.trans ((Chg.of (bel_drew (Below.refl _ _) 1)).trans (.of hb5));clear H1C H1g H1t H1T H1D;refine ⟨_,rfl,hK.o _ _ ⟨H2g.o,H2t.o⟩ (fun hHeld=>?_)⟩;clear hK K hb5 HRE;simp only [zq];refine zqs 9 30 (.tuple #[.slice pz lz cz,zI pd,zI 0]) rfl rfl (by kernel_rfl) zid rfl (fun v hv=>by clear hv;go_simp) hHeld ?_;simp only [zq];refine zqs 10 40 (.slice pz lz cz) rfl rfl (by kernel_rfl) zid rfl (fun v hv=>by clear hv;go_simp) hHeld ?_;simp only [zq];refine zqs 11 41 (zI pd) rfl rfl (by kernel_rfl) zid rfl (fun v hv=>by clear hv;go_simp) hHeld ?_;simp only [zq];refine zqs 12 42 (zI 0) rfl rfl (by kernel_rfl) zid rfl (fun v hv=>by clear hv;go_simp) hHeld ?_;simp only [zq];refine zqs 13 10 (.slice pz lz cz) rfl rfl (by kernel_rfl) zid rfl (fun v hv=>by clear hv;go_simp) hHeld ?_;simp only [zq];refine zqs 14 11 (zI pd) rfl rfl (by kernel_rfl) zid rfl (fun v hv=>by clear hv;go_simp) hHeld ?_;simp only [zq];refine zqs 15 12 (zI 0) rfl rfl (by kernel_rfl) zid rfl (fun v hv=>by clear hv;go_simp) hHeld ?_;simp only [zq];refine wpAnyH_done (by kernel_rfl) ?_ _;clear hHeld;have qt2:w5.cell? ⟨w.heap.size,2,none⟩=some (zI t.fb):=H2t.o.cell 2;go_wp2_with fail;refine (HPA.o _).mono ?_;rintro e w6 ⟨rfl,hb6⟩;have H3g:=shN H2g hb6;have H3t:Hid (Blk w6 (w.heap.size) #[.slice pt lt ct,zI t.ff,zI t.fb,zI t.db,zI t.al] 24):=Chg.keep (g:=g) (.of hb6) H2t.o (by omega)
   have H3T:Hid (Came w6 pt lt ct t.ts):=came_chg H2T.o (.of hb6) HFAR.o;have H3D:Hid (deb.Fresh w6 (g+1) q n c y.ds):=fresh_chg H2D.o (.of hb6);have H3Z:Hid (deb.Fresh w6 (g+1) pz lz cz z):=fresh_chg HZF.o (.of hb6);have H3C:Hid (Chg w w6 g):=H2C.o.trans (.of hb6);clear H2C H2g H2t H2T H2D HZF hb6 qt2 HPA;generalize te*t.fb / 10000=pq at *;have hff:=htok.1;have HRS:Hid (te - pd - (t.ff+pq)=rest x t te m):=by show _=_;unfold rest;rw [HPD.o,HFE.o]
   have HRH:Hid (tar.Right t.ts):=HT.o.1;clear htok;by_cases h6:te - pd - (t.ff+pq)<0
   ·have d6:decide (te - pd - (t.ff+pq)<0)=true:=decide_eq_true h6;have HV:Hid (Or0 (SellIs x t te m) y bi0 19):= .inl ⟨by decide,.inr (.inl ⟨HRY.o,fun hh=>by have:=hh.2.1;rw [← HRS.o] at this;omega,rfl,rfl,rfl⟩)⟩;have qt1:w6.cell? ⟨w.heap.size,1,none⟩=some (zI t.ff):=H3t.o.cell 1;go_wp2_with fail;go_ret;exact ⟨y,bi0,q,n,c,19,rfl,HV.o,H3g.o,H3D.o,H3C.o⟩
   ·have d6:decide (te - pd - (t.ff+pq)<0)=false:=decide_eq_false h6;have HMS:Hid (Calls Tryz.prog 166 #[.slice pt lt ct,zI y.bo,zI (te - pd - (t.ff+pq))] w6.drew fun e w'=>tar.ThreePost w6.drew (tar.MostIs t.ts y.bo (te - pd - (t.ff+pq))) e w'):=tar.kmost _ pt lt ct t.ts y.bo _ (H3T.o.below (bel_drew (Below.refl _ _) 1)) (tar.wf_mid hbo.1 (by omega)) (tar.wf_mid (by omega) (by omega));have HMM:Hid (tar.MayMost y.bo (te - pd - (t.ff+pq))):=⟨hbo,by omega,by omega⟩
    have qt1:w6.cell? ⟨w.heap.size,1,none⟩=some (zI t.ff):=H3t.o.cell 1;go_wp2_with fail;clear qt1;refine wp_region_held_drew (S:=fun v=>Blk v (g) #[zI y.me,zI y.rv,zI y.nx,zI y.mo,zI y.bo,zI y.fr,.slice q n c,zI 0,zI 0,zI 0,zI 0,zI 0,zI 0,zI 0] 252∧Blk v (w.heap.size) #[.slice pt lt ct,zI t.ff,zI t.fb,zI t.db,zI t.al] 24) (by kernel_rfl) ⟨Blk.drew H3g.o 1,Blk.drew H3t.o 1⟩ (fun hHeld=>?_);refine zqs 0 62 (.pointer (some ⟨w.heap.size,0,none⟩)) rfl rfl (by kernel_rfl) zid rfl (fun v hv=>by clear hv;go_simp) hHeld ?_;simp only [zq];refine zqt 1 63 (.slice pt lt ct) rfl rfl (by kernel_rfl) zid (Or.inl ⟨by rfl,fun v hv=>by have g0:=hv.2.cell 0;clear hv;go_simp⟩) hHeld ?_;simp only [zq];refine zqs 2 64 (.pointer (some ⟨g,0,none⟩)) rfl rfl (by kernel_rfl) zid rfl (fun v hv=>by clear hv;go_simp) hHeld ?_;simp only [zq];refine zqs 3 65 (.pointer (some ⟨g,0,none⟩)) rfl rfl (by kernel_rfl) zid rfl (fun v hv=>by clear hv;go_simp) hHeld ?_;simp only [zq];refine zqs 4 66 (.pointer (some ⟨g,0,none⟩)) rfl rfl (by kernel_rfl) zid rfl (fun v hv=>by clear hv;go_simp) hHeld ?_;simp only [zq];refine zqs 5 67 (.pointer (some ⟨g,4,none⟩)) rfl rfl (by kernel_rfl) zid rfl (fun v hv=>by clear hv;go_simp) hHeld ?_;simp only [zq];refine zqt 6 68 (zI y.bo) rfl rfl (by kernel_rfl) zid (Or.inl ⟨by rfl,fun v hv=>by have g0:=hv.1.cell 4;clear hv;go_simp⟩) hHeld ?_;simp only [zq];refine zqs 7 69 (zI (te - pd - (t.ff+pq))) rfl rfl (by kernel_rfl) zid rfl (fun v hv=>by clear hv;go_simp) hHeld ?_;simp only [zq];refine zqo 8 (by kernel_rfl) rfl (fun K hK=>?_);rw [if_pos (by rfl)];refine wp_callOp 70 rfl (by clear hK;go_simp) HMS.o ?_;rintro e w7 ⟨u,pc,fm,rfl,hi7,hb7⟩;obtain ⟨rfl,hmo7,hpc⟩:=hi7.got HRH.o HMM.o;have hu0:=hmo7.1.1;have hu1:u≤2097151:=by have:=hmo7.1.2;unfold tar.Top at this;omega
    have hu2:y.bo+u≤10000000:=by have:=hmo7.1.2;unfold tar.Top at this;omega
    have hcb:=tar.cost_bd HRH.o y.bo (y.bo+u) hbo.1 (by omega) hu2;rw [← hpc] at hcb;have hpc1:pc≤(te - pd - (t.ff+pq)):=by rw [hpc];exact hmo7.2.1
    have hpc0:0≤pc:=by omega
    have HMO:Hid (tar.MostOf t.ts (rolled x m).bo (rest x t te m) u):=by show tar.MostOf _ _ _ _;rw [← HBR.o,← HRS.o];exact hmo7
    have HPC:Hid (pc=tar.cost t.ts (rolled x m).bo ((rolled x m).bo+u)):=by show _=_;rw [← HBR.o];exact hpc
    have HONE:Hid (∀ v,tar.MostOf t.ts (rolled x m).bo (rest x t te m) v→v=u):=fun v hv=>by
     have hbb:0≤(rolled x m).bo:=by rw [← HBR.o];exact hbo.1
     exact hv.one HRH.o hbb HMO.o
    clear hmo7 hpc hcb hi7;have H4g:Hid (Blk w7 g #[zI y.me,zI y.rv,zI y.nx,zI y.mo,zI y.bo,zI y.fr,.slice q n c,zI 0,zI 0,zI 0,zI 0,zI 0,zI 0,zI 0] 252):=(Blk.drew H3g.o 1).next hb7;have H4t:Hid (Blk w7 (w.heap.size) #[.slice pt lt ct,zI t.ff,zI t.fb,zI t.db,zI t.al] 24):=Chg.keep (g:=g) ((Chg.of (bel_drew (Below.refl _ _) 1)).trans (.of hb7)) H3t.o (by omega);have H4T:Hid (Came w7 pt lt ct t.ts):=came_chg H3T.o ((Chg.of (bel_drew (Below.refl _ _) 1)).trans (.of hb7)) HFAR.o;have H4D:Hid (deb.Fresh w7 (g+1) q n c y.ds):=fresh_chg H3D.o ((Chg.of (bel_drew (Below.refl _ _) 1)).trans (.of hb7));have H4Z:Hid (deb.Fresh w7 (g+1) pz lz cz z):=fresh_chg H3Z.o ((Chg.of (bel_drew (Below.refl _ _) 1)).trans (.of hb7));have H4C:Hid (Chg w w7 g):=H3C.o.trans ((Chg.of (bel_drew (Below.refl _ _) 1)).trans (.of hb7));clear H3C H3g H3t H3T H3D H3Z;refine ⟨_,rfl,hK.o _ _ ⟨H4g.o,H4t.o⟩ (fun hHeld=>?_)⟩;clear hK K hb7 HMS;simp only [zq];refine zqs 9 61 (.tuple #[zI u,zI pc,zI 0]) rfl rfl (by kernel_rfl) zid rfl (fun v hv=>by clear hv;go_simp) hHeld ?_;simp only [zq];refine zqs 10 71 (zI u) rfl rfl (by kernel_rfl) zid rfl (fun v hv=>by clear hv;go_simp) hHeld ?_;simp only [zq];refine zqs 11 72 (zI pc) rfl rfl (by kernel_rfl) zid rfl (fun v hv=>by clear hv;go_simp) hHeld ?_;simp only [zq];refine zqs 12 73 (zI 0) rfl rfl (by kernel_rfl) zid rfl (fun v hv=>by clear hv;go_simp) hHeld ?_;simp only [zq];refine zqs 13 17 (zI u) rfl rfl (by kernel_rfl) zid rfl (fun v hv=>by clear hv;go_simp) hHeld ?_;simp only [zq];refine zqs 14 18 (zI pc) rfl rfl (by kernel_rfl) zid rfl (fun v hv=>by clear hv;go_simp) hHeld ?_;simp only [zq];refine zqs 15 19 (zI 0) rfl rfl (by kernel_rfl) zid rfl (fun v hv=>by clear hv;go_simp) hHeld ?_;simp only [zq];refine wpAnyH_done (by kernel_rfl) ?_ _;clear hHeld;by_cases h7:u=0
    ·have d7:(u == 0)=true:=by simpa using h7
     have HV:Hid (Or0 (SellIs x t te m) y bi0 19):= .inl ⟨by decide,.inr (.inl ⟨HRY.o,fun hh=>hh.2.2 (by rw [← h7];exact HMO.o),rfl,rfl,rfl⟩)⟩;clear h7;go_wp2_with fail;go_ret;exact ⟨y,bi0,q,n,c,19,rfl,HV.o,H4g.o,H4D.o,H4C.o⟩
    ·have d7:(u == 0)=false:=by simpa using h7
     have HTE:Hid (TenOk x t te m):=⟨h5,by rw [← HRS.o];omega,fun hh=>h7 (HONE.o 0 hh).symm⟩
     clear h7;go_wp2_with (first | (refine wp_letS rfl 49 _ _ rfl g 6 rfl pz lz cz rfl (by kernel_rfl) #[zI y.me,zI y.rv,zI y.nx,zI y.mo,zI y.bo,zI y.fr,.slice q n c,zI 0,zI 0,zI 0,zI 0,zI 0,zI 0,zI 0] 252 H4g.o (by simp) ?_) | fail)
     intro W8 hU;have H5g:Hid (Blk W8 g #[zI y.me,zI y.rv,zI y.nx,zI y.mo,zI y.bo,zI y.fr,.slice pz lz cz,zI 0,zI 0,zI 0,zI 0,zI 0,zI 0,zI 0] 252):=hU.blk;have H5t:Hid (Blk W8 (w.heap.size) #[.slice pt lt ct,zI t.ff,zI t.fb,zI t.db,zI t.al] 24):=Chg.keep (g:=g) (.upd hU) H4t.o (by omega);have H5Z:Hid (deb.Fresh W8 (g+1) pz lz cz z):=fresh_chg H4Z.o (.upd hU);have H5C:Hid (Chg w W8 g):=H4C.o.trans (.upd hU);clear H4C H4g H4t H4Z hU d7;have qg4:W8.cell? ⟨g,4,none⟩=some (zI y.bo):=H5g.o.cell 4;have hwb:IntKind.i64.wrap (y.bo+u)=y.bo+u:=by rw [IntKind.wrap_i64];omega
     go_wp2_with (first | (refine wp_let1 rfl 3 _ _ rfl g 4 rfl .i64 (y.bo+u) rfl (by kernel_rfl) #[zI y.me,zI y.rv,zI y.nx,zI y.mo,zI y.bo,zI y.fr,.slice pz lz cz,zI 0,zI 0,zI 0,zI 0,zI 0,zI 0,zI 0] 252 H5g.o (by simp) ?_) | fail)
     intro W9 hU;have H6g:Hid (Blk W9 g #[zI y.me,zI y.rv,zI y.nx,zI y.mo,zI (y.bo+u),zI y.fr,.slice pz lz cz,zI 0,zI 0,zI 0,zI 0,zI 0,zI 0,zI 0] 252):=hU.blk;have H6t:Hid (Blk W9 (w.heap.size) #[.slice pt lt ct,zI t.ff,zI t.fb,zI t.db,zI t.al] 24):=Chg.keep (g:=g) (.upd hU) H5t.o (by omega);have H6Z:Hid (deb.Fresh W9 (g+1) pz lz cz z):=fresh_chg H5Z.o (.upd hU);have H6C:Hid (Chg w W9 g):=H5C.o.trans (.upd hU);clear H5C H5g H5t H5Z hU qg4 hwb;have hwd:IntKind.i64.wrap ((te - pd - (t.ff+pq)) - pc)=(te - pd - (t.ff+pq)) - pc:=by rw [IntKind.wrap_i64];omega
     have HPUT:Hid (putAll #[zI y.me,zI y.rv,zI y.nx,zI y.mo,zI (y.bo+u),zI y.fr,.slice pz lz cz,zI 0,zI 0,zI 0,zI 0,zI 0,zI 0,zI 0] 7 (#[zI 0,zI te,zI pd,zI (t.ff+pq),zI pc,zI ((te - pd - (t.ff+pq)) - pc),zI u]:Array Value).toList=#[zI y.me,zI y.rv,zI y.nx,zI y.mo,zI (y.bo+u),zI y.fr,.slice pz lz cz,zI 0,zI te,zI pd,zI (t.ff+pq),zI pc,zI ((te - pd - (t.ff+pq)) - pc),zI u]):=by show _=_;kernel_rfl
     go_wp2_with (first | (refine wp_let rfl 68 _ _ rfl g 7 rfl (.agg #[zI 0,zI te,zI pd,zI (t.ff+pq),zI pc,zI ((te - pd - (t.ff+pq)) - pc),zI u]) rfl #[zI 0,zI te,zI pd,zI (t.ff+pq),zI pc,zI ((te - pd - (t.ff+pq)) - pc),zI u] rfl (by kernel_rfl) (by simp [Value.oneCell']) #[zI y.me,zI y.rv,zI y.nx,zI y.mo,zI (y.bo+u),zI y.fr,.slice pz lz cz,zI 0,zI 0,zI 0,zI 0,zI 0,zI 0,zI 0] 252 H6g.o (by simp) #[zI y.me,zI y.rv,zI y.nx,zI y.mo,zI (y.bo+u),zI y.fr,.slice pz lz cz,zI 0,zI te,zI pd,zI (t.ff+pq),zI pc,zI ((te - pd - (t.ff+pq)) - pc),zI u] HPUT.o ?_) | fail)
     intro WA hU;have H7g:Hid (Blk WA g #[zI y.me,zI y.rv,zI y.nx,zI y.mo,zI (y.bo+u),zI y.fr,.slice pz lz cz,zI 0,zI te,zI pd,zI (t.ff+pq),zI pc,zI ((te - pd - (t.ff+pq)) - pc),zI u] 252):=hU.blk;have H7t:Hid (Blk WA (w.heap.size) #[.slice pt lt ct,zI t.ff,zI t.fb,zI t.db,zI t.al] 24):=Chg.keep (g:=g) (.upd hU) H6t.o (by omega);have H7Z:Hid (deb.Fresh WA (g+1) pz lz cz z):=fresh_chg H6Z.o (.upd hU);have H7C:Hid (Chg w WA g):=H6C.o.trans (.upd hU);clear H6C H6g H6t H6Z hU hwd
     have HSV:Hid (⟨y.me,y.rv,y.nx+1,y.mo,y.bo+u,y.fr,z⟩=sold x t te m u):=by
      show _=_;unfold sold;rw [HZV.o,← HBR.o,HBS.o.1,HBS.o.2.1,HBS.o.2.2.1,HBS.o.2.2.2.1,HBS.o.2.2.2.2]
     have HBV:Hid (⟨y.nx,te,pd,(t.ff+pq),pc,(te - pd - (t.ff+pq)) - pc,u⟩=bill x t te m u):=by
      show _=_;unfold bill;rw [← HPC.o,← HRS.o,← HPD.o,← HFE.o,HYN.o]
     have HNU:Hid (Calls Tryz.prog 161 #[.pointer (some ⟨g,0,none⟩)] WA fun e w'=>NumPost WA g ⟨y.me,y.rv,y.nx,y.mo,y.bo+u,y.fr,z⟩ ⟨0,te,pd,(t.ff+pq),pc,(te - pd - (t.ff+pq)) - pc,u⟩ pz lz cz e w'):=pnum g ⟨y.me,y.rv,y.nx,y.mo,y.bo+u,y.fr,z⟩ ⟨0,te,pd,(t.ff+pq),pc,(te - pd - (t.ff+pq)) - pc,u⟩ pz lz cz WA H7g.o hyx;go_wp2_with fail;refine HNU.o.mono ?_;rintro e wN ⟨hcN,⟨hx,rfl,hiN⟩ | ⟨hx,rfl,hiN⟩⟩
     ·have HV:Hid (Or0 (SellIs x t te m) ⟨y.me,y.rv,y.nx,y.mo,y.bo+u,y.fr,z⟩ ⟨0,te,pd,(t.ff+pq),pc,(te - pd - (t.ff+pq)) - pc,u⟩ 20):= .inl ⟨by decide,.inr (.inr (.inl ⟨HRY.o,HTE.o,by rw [← HYN.o];exact hx,rfl,rfl,rfl⟩))⟩;have HDN:=fresh_chg H7Z.o hcN;have HCN:=H7C.o.trans hcN;clear HNU hx;go_wp2_with fail;go_ret;exact ⟨⟨y.me,y.rv,y.nx,y.mo,y.bo+u,y.fr,z⟩,⟨0,te,pd,(t.ff+pq),pc,(te - pd - (t.ff+pq)) - pc,u⟩,pz,lz,cz,20,rfl,HV.o,hiN,HDN,HCN⟩
     ·have HV:Hid (Or0 (SellIs x t te m) ⟨y.me,y.rv,y.nx+1,y.mo,y.bo+u,y.fr,z⟩ ⟨y.nx,te,pd,(t.ff+pq),pc,(te - pd - (t.ff+pq)) - pc,u⟩ 0):= .inr ⟨rfl,.inr (.inr (.inr ⟨HRY.o,HTE.o,by rw [← HYN.o];exact hx,rfl,u,HMO.o,HSV.o,HBV.o⟩))⟩;have HDN:=fresh_chg H7Z.o hcN;have HCN:=H7C.o.trans hcN;clear HNU hx;go_wp2_with fail;go_ret;exact ⟨⟨y.me,y.rv,y.nx+1,y.mo,y.bo+u,y.fr,z⟩,⟨y.nx,te,pd,(t.ff+pq),pc,(te - pd - (t.ff+pq)) - pc,u⟩,pz,lz,cz,0,rfl,HV.o,hiN,HDN,HCN⟩
  ·rw [decide_eq_false h5] at HIT;have HV:Hid (Or0 (SellIs x t te m) y bi0 19):= .inl ⟨by decide,.inr (.inl ⟨HRY.o,fun hh=>h5 hh.1,rfl,rfl,rfl⟩)⟩;clear h5;go_wp2_with fail;refine (HIT.o _).mono ?_;rintro e wz ⟨rfl,hwz⟩;subst wz;go_wp2_with fail;go_ret;exact ⟨y,bi0,q,n,c,19,rfl,HV.o,H1g.o,H1D.o,H1C.o⟩
 ·skip
  have d0:(f != 0)=true:=by simpa using h0
  have HV:Hid (Or0 (SellIs x t te m) y bi0 f):=by
   refine .inl ⟨h0,.inl ⟨?_,rfl,rfl⟩⟩;rcases hr with ⟨h1,h2,_⟩ | ⟨h1,h2,h3,_⟩ | ⟨_,_,_,h1⟩
   ·exact .inr (.inl ⟨HM.o,h1,h2⟩)
   ·exact .inr (.inr ⟨HM.o,h1,h2,h3⟩)
   ·exact absurd h1 h0
  clear hr h0;go_wp2_with fail;go_ret;exact ⟨y,bi0,q,n,c,f,rfl,HV.o,H1g.o,H1D.o,H1C.o⟩
end acc
namespace words
open Go.RowKit
theorem run_putStep (args:Array Value) (w:World):(callFunc 169 args).run Tryz.prog w = .ok (.enter 169 args) w:=by kernel_rfl
theorem low32 (s:Nat):((s:Nat):Int) % 4294967296=((s % 2 ^ 32:Nat):Int):=by omega
theorem putStep_abs (N At V:Nat) (x v n k M s r f g z y:Int) (w:World) (hn:w.cell? ⟨N,0,none⟩=some (zI n)) (hat:w.cell? ⟨At,0,none⟩=some (zI k)) (hf:w.frozen? ⟨At,0,none⟩=false) (hv:w.cell? ⟨V,0,none⟩=some (.int .u64 v))
  (HO:Hid (∀ w,Calls Tryz.prog 168 #[zI n] w fun e w'=>e = .returned (.int .u64 M)∧w'=w))
  (HS:Hid (∀ w,Calls Tryz.prog 170 #[.int .u64 M,zI k] w fun e w'=>e = .returned (.int .u64 s)∧w'=w))
  (HT:Hid (∀ w,Calls Tryz.prog 170 #[.int .u64 v,zI k] w fun e w'=>e = .returned (.int .u64 r)∧w'=w))
  (q1:s % 4294967296=f) (q2:r % 4294967296=g) (o1:bits .andNot .u32 x f=z) (o2:bits .or .u32 z g=y) (k0:-64≤k) (k1:k≤96) :
  Calls Tryz.prog 169 #[.int .u32 x,.pointer (some ⟨N,0,none⟩),.pointer (some ⟨At,0,none⟩),.pointer (some ⟨V,0,none⟩)] w fun e w'=>e = .returned (.int .u32 y)∧Acc w w' At (zI (k - 32)):=by
 have hA:Acc w w At (zI k):=Acc.refl hat hf;have HA:Hid (Acc w w At (zI k)):=hA;clear hA;go_enter Tryz.func169,Tryz.ntmps169;go_wp2_with fail
 go_quiet (first
  | (go_at_call 168;exact (HO.o _).mono fun _ _ h=>⟨h.1,_,h.2⟩)
  | (go_at_call_of 170 (Value.int .u64 M);exact (HS.o _).mono fun _ _ h=>⟨h.1,_,h.2⟩)
  | (go_at_call_of 170 (Value.int .u64 v);exact (HT.o _).mono fun _ _ h=>⟨h.1,_,h.2⟩))
 go_wp2_with fail;go_ret;exact ⟨rfl,(HA.o.drewN _).set _⟩
theorem putStep_any (N At V:Nat) (x v n:Nat) (k:Int) (w:World) (hn:w.cell? ⟨N,0,none⟩=some (zI (n:Int))) (hat:w.cell? ⟨At,0,none⟩=some (zI k)) (hf:w.frozen? ⟨At,0,none⟩=false) (hv:w.cell? ⟨V,0,none⟩=some (.int .u64 (v:Int)))
  (x1:x<2 ^ 32) (v1:v<2 ^ 64) (n0:1≤n) (n1:n≤64) (k0:-64≤k) (k1:k≤96) :
  Calls Tryz.prog 169 #[.int .u32 (x:Int),.pointer (some ⟨N,0,none⟩),.pointer (some ⟨At,0,none⟩),.pointer (some ⟨V,0,none⟩)] w fun e w'=>e = .returned (.int .u32 (putN x v n k:Nat))∧Acc w w' At (zI (k - 32)):=by
 have l1:sh (onesN n) k % 2 ^ 32<2 ^ 32:=Nat.mod_lt _ (by decide);have l2:sh v k % 2 ^ 32<2 ^ 32:=Nat.mod_lt _ (by decide);have l3:x &&& (2 ^ 32 - 1 - sh (onesN n) k % 2 ^ 32)<2 ^ 32:=Nat.lt_of_le_of_lt Nat.and_le_left x1
 exact putStep_abs N At V x v n k (onesN n:Nat) (sh (onesN n) k:Nat) (sh v k:Nat) _ _ _ _ w hn hat hf hv
  (fun w=>ones_any n w n0 n1) (fun w=>shift_any _ _ w (ones_lt n n1) (by omega) k1) (fun w=>shift_any _ _ w v1 (by omega) k1)
  (low32 _) (low32 _) (andNot32 x _ x1 l1) (or32 _ _ l3 l2) k0 k1
theorem five (w:World) (cs:Array Value) (T1 T2 T3 T5:TypeId) (m v x y z u:Value) (q:Nat) :
  (((((((w.alloc (.cells cs T1)).alloc (.cells #[m] T2)).alloc (.cells #[v] T3)).alloc (.cells #[x,y,z] 131)).drewN q).alloc (.cells #[u] T5)).cell? ⟨w.heap.size+1,0,none⟩=some m) ∧
  (((((((w.alloc (.cells cs T1)).alloc (.cells #[m] T2)).alloc (.cells #[v] T3)).alloc (.cells #[x,y,z] 131)).drewN q).alloc (.cells #[u] T5)).cell? ⟨w.heap.size+1+1,0,none⟩=some v) ∧
  Trio ((((((w.alloc (.cells cs T1)).alloc (.cells #[m] T2)).alloc (.cells #[v] T3)).alloc (.cells #[x,y,z] 131)).drewN q).alloc (.cells #[u] T5)) (w.heap.size+1+1+1) x y z ∧
  (((((((w.alloc (.cells cs T1)).alloc (.cells #[m] T2)).alloc (.cells #[v] T3)).alloc (.cells #[x,y,z] 131)).drewN q).alloc (.cells #[u] T5)).cell? ⟨w.heap.size+1+1+1+1,0,none⟩=some u) ∧
  (((((((w.alloc (.cells cs T1)).alloc (.cells #[m] T2)).alloc (.cells #[v] T3)).alloc (.cells #[x,y,z] 131)).drewN q).alloc (.cells #[u] T5)).frozen? ⟨w.heap.size+1+1+1+1,0,none⟩=false):=by
 have hh:((((((w.alloc (.cells cs T1)).alloc (.cells #[m] T2)).alloc (.cells #[v] T3)).alloc (.cells #[x,y,z] 131)).drewN q).alloc (.cells #[u] T5)).heap=((((w.heap.push (.cells cs T1)).push (.cells #[m] T2)).push (.cells #[v] T3)).push (.cells #[x,y,z] 131)).push (.cells #[u] T5):=rfl;have s1:w.heap.size+1=(w.heap.push (.cells cs T1)).size:=by simp
 have s2:w.heap.size+1+1=((w.heap.push (.cells cs T1)).push (.cells #[m] T2)).size:=by simp
 have s3:w.heap.size+1+1+1=(((w.heap.push (.cells cs T1)).push (.cells #[m] T2)).push (.cells #[v] T3)).size:=by simp
 have s4:w.heap.size+1+1+1+1=((((w.heap.push (.cells cs T1)).push (.cells #[m] T2)).push (.cells #[v] T3)).push (.cells #[x,y,z] 131)).size:=by simp
 generalize ((((((w.alloc (.cells cs T1)).alloc (.cells #[m] T2)).alloc (.cells #[v] T3)).alloc (.cells #[x,y,z] 131)).drewN q).alloc (.cells #[u] T5))=W at *
 have e1:W.heap[w.heap.size+1]?=some (.cells #[m] T2):=by
  rw [hh,Array.getElem?_push,if_neg (by simp),Array.getElem?_push,if_neg (by simp),Array.getElem?_push,if_neg (by simp),s1,Array.getElem?_push_size]
 have e2:W.heap[w.heap.size+1+1]?=some (.cells #[v] T3):=by
  rw [hh,Array.getElem?_push,if_neg (by simp),Array.getElem?_push,if_neg (by simp),s2,Array.getElem?_push_size]
 have e3:W.heap[w.heap.size+1+1+1]?=some (.cells #[x,y,z] 131):=by
  rw [hh,Array.getElem?_push,if_neg (by simp),s3,Array.getElem?_push_size]
 have e4:W.heap[w.heap.size+1+1+1+1]?=some (.cells #[u] T5):=by
  rw [hh,s4,Array.getElem?_push_size]
 refine ⟨?_,?_,e3,?_,?_⟩
 ·simp only [World.cell?,e1];rfl
 ·simp only [World.cell?,e2];rfl
 ·simp only [World.cell?,e4];rfl
 ·simp only [World.frozen?,e4];rfl
theorem bel5 (w:World) (o1 o2 o3 o4 o5:Obj) (q:Nat):Below w.heap.size w (((((w.alloc o1).alloc o2).alloc o3).alloc o4).drewN q |>.alloc o5):=
 (below_drewN (bel4 w o1 o2 o3 o4) q).alloc (by show _≤((((w.heap.push o1).push o2).push o3).push o4).size;simp;omega) _
theorem put_any (a b c v lo n:Nat) (w:World) (ha:a<2 ^ 32) (hb:b<2 ^ 32) (hc:c<2 ^ 32) (hv:v<2 ^ n) (n0:1≤n) (n1:n≤64) (hl:lo+n≤96) :
  Calls Tryz.prog 132 #[.agg #[.int .u32 (a:Int),.int .u32 (b:Int),.int .u32 (c:Int)],zI (lo:Int),zI (n:Int),.int .u64 (v:Int)] w fun e w'=>
   e = .returned (.tuple #[.agg #[.int .u32 (putN a v n lo:Nat),.int .u32 (putN b v n ((lo:Int) - 32):Nat),.int .u32 (putN c v n ((lo:Int) - 64):Nat)],zI 0])∧Below w.heap.size w w':=by
 have v1:v<2 ^ 64:=Nat.lt_of_lt_of_le hv (Nat.pow_le_pow_right (by decide) n1);have HI:Hid (∀ w,Calls Tryz.prog 167 #[zI (lo:Int),zI (n:Int)] w fun e w'=>e = .returned (.bool true)∧w'=w):=fun w=>isField_yes _ _ w (by omega) (by omega) (by omega) (by omega);have HO:Hid (∀ w,Calls Tryz.prog 168 #[zI (n:Int)] w fun e w'=>e = .returned (.int .u64 (onesN n:Nat))∧w'=w):=fun w=>ones_any n w n0 n1;have hd:decide (((onesN n:Nat):Int)<(v:Int))=false:=decide_eq_false (by unfold onesN;omega);have e64:(lo:Int) - 32 - 32=(lo:Int) - 64:=by omega
 generalize ((onesN n:Nat):Int)=M at *;rw [← e64];go_enter Tryz.func132,Tryz.ntmps132;go_wp2_with fail
 go_quiet (first
  | (go_at_call 167;exact (HI.o _).mono fun _ _ h=>⟨h.1,_,h.2⟩)
  | (go_at_call 168;exact (HO.o _).mono fun _ _ h=>⟨h.1,_,h.2⟩))
 go_wp2_with fail;obtain ⟨f1,f2,f3,f4,f5⟩:=five w #[.int .u32 (a:Int),.int .u32 (b:Int),.int .u32 (c:Int)] 131 3 223 3 (zI (n:Int)) (.int .u64 (v:Int)) (.int .u32 0) (.int .u32 0) (.int .u32 0) (zI (lo:Int)) nq;have hb5:=bel5 w (.cells #[.int .u32 (a:Int),.int .u32 (b:Int),.int .u32 (c:Int)] 131) (.cells #[zI (n:Int)] 3) (.cells #[.int .u64 (v:Int)] 223) (.cells #[.int .u32 0,.int .u32 0,.int .u32 0] 131) (.cells #[zI (lo:Int)] 3) nq
 refine (upward_any 169 #[.pointer (some ⟨w.heap.size+1,0,none⟩),.pointer (some ⟨w.heap.size+1+1+1+1,0,none⟩),.pointer (some ⟨w.heap.size+1+1,0,none⟩)] (w.heap.size+1+1+1+1) (zI (lo:Int)) (zI ((lo:Int) - 32)) (zI ((lo:Int) - 32 - 32)) (zI ((lo:Int) - 32 - 32 - 32)) a b c
  (putN a v n lo:Nat) (putN b v n ((lo:Int) - 32):Nat) (putN c v n ((lo:Int) - 32 - 32):Nat) _ (Acc.refl f4 f5) run_putStep
  (fun w' h=>putStep_any _ _ _ _ _ _ _ w' (h.keep f1 (by omega)) h.cell h.free (h.keep f2 (by omega)) ha v1 n0 n1 (by omega) (by omega))
  (fun w' h=>putStep_any _ _ _ _ _ _ _ w' (h.keep f1 (by omega)) h.cell h.free (h.keep f2 (by omega)) hb v1 n0 n1 (by omega) (by omega))
  (fun w' h=>putStep_any _ _ _ _ _ _ _ w' (h.keep f1 (by omega)) h.cell h.free (h.keep f2 (by omega)) hc v1 n0 n1 (by omega) (by omega))).mono ?_
 rintro e w1 ⟨he,hA⟩;have hR:=f3.acc hA (by omega);have HB:Hid (Below w.heap.size w w1):=hA.below hb5 (by omega);clear hA f1 f2 f3 f4 f5 hb5;have HE2:Hid (e = .returned (.agg #[.int .u32 (putN a v n lo:Nat),.int .u32 (putN b v n ((lo:Int) - 32):Nat),.int .u32 (putN c v n ((lo:Int) - 32 - 32):Nat)])):=he;clear he;obtain ⟨y0,h0⟩:∃ y0:Int,y0=(putN a v n lo:Nat):=⟨_,rfl⟩
 obtain ⟨y1,h1⟩:∃ y1:Int,y1=(putN b v n ((lo:Int) - 32):Nat):=⟨_,rfl⟩
 obtain ⟨y2,h2⟩:∃ y2:Int,y2=(putN c v n ((lo:Int) - 32 - 32):Nat):=⟨_,rfl⟩
 have HH:Hid (y0=(putN a v n lo:Nat)∧y1=(putN b v n ((lo:Int) - 32):Nat)∧y2=(putN c v n ((lo:Int) - 32 - 32):Nat)):=⟨h0,h1,h2⟩
 rw [← h0,← h1,← h2] at HE2;obtain rfl:=HE2.o;clear HE2 h0 h1 h2;have r0:=hR.c0;have r1:=hR.c1;have r2:=hR.c2;have g0:=hR.free 0;have g1:=hR.free 1;have g2:=hR.free 2;have HR:Hid (Trio w1 (w.heap.size+1+1+1) (.int .u32 0) (.int .u32 0) (.int .u32 0)):=hR;clear hR;go_wp2_with fail;have RR:=HR.o.put (.int .u32 y0) (.int .u32 y1) (.int .u32 y2);refine bodyPost_ret (v:= .tuple #[.agg #[.int .u32 y0,.int .u32 y1,.int .u32 y2],zI 0]) (by simp [results,Tryz.results132,RR.c0,RR.c1,RR.c2,go_sem]) rfl ⟨?_,?_⟩
 ·rw [HH.o.1,HH.o.2.1,HH.o.2.2]
 ·exact below_put3 HB.o _ _ _ _ (by omega)
end words
end Go.Proofs.YtnpblpbohcegoaaGreatDoor
