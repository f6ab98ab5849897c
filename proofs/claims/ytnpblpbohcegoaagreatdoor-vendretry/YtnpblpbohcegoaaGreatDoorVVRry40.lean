import Derived.Test.YtnpblpbohcegoaaGreatDoorVVRry32
import Derived.Test.YtnpblpbohcegoaaGreatDoorVVRry33
set_option linter.unusedVariables false
set_option linter.unusedSimpArgs false
set_option maxHeartbeats 4000000
set_option maxRecDepth 100000
namespace Go.Proofs.YtnpblpbohcegoaaGreatDoor
namespace vnd
open disk (RepIs AppIs)
open book (Ev ev0 EMay evL evOf EncIs DecIs Cm cm0 So so0 BookIs Sees ECame FirstAt NoneAt)
open acc (Ac Tm Bi TCame ACame)
open cell (Wr RowU)
open Go.RowKit
def CusP (w:World) (bk:List Cm) (me:Int) (e:Ending) (w':World):Prop:=Below w.heap.size w w'∧((e = .returned (.tuple #[.agg #[zI 0,zI 0,zI 0,zI 0,zI 0,zI 0,zS,zS],zI 18])∧NoneAt bk me) ∨
 ∃ k dp dn dc sp sn sc,e = .returned (.tuple #[.agg #[zI (bk.getD k cm0).a.me,zI (bk.getD k cm0).a.rv,zI (bk.getD k cm0).a.nx,zI (bk.getD k cm0).a.mo,zI (bk.getD k cm0).a.bo,zI (bk.getD k cm0).a.fr,.slice dp dn dc,.slice sp sn sc],zI 0])∧FirstAt bk me k∧k<bk.length∧tar.Came w dp dn dc (bk.getD k cm0).a.ds∧book.RowS w sp sn (bk.getD k cm0).so)
theorem find_first {xs:List book.Cu} {bk:List Cm} {me x f:Int} (hl:xs.length=bk.length) (hn:∀ i,i<xs.length→book.Nums (xs.getD i book.cu0) (bk.getD i cm0).a) (h:book.FindIs xs me x f):(f=18∧NoneAt bk me)∨(∃ k:Nat,x=(k:Int)∧f=0∧FirstAt bk me k∧k<xs.length):=by
 rcases h with ⟨k,h1,h2,h3,h4,h5⟩ | ⟨h1,h2,h3⟩
 ·refine .inr ⟨k,h4,h5,⟨by rw [← hl];exact h1,by rw [← (hn k h1).1];exact h2,fun j hj=>by rw [← (hn j (by omega)).1];exact h3 j hj⟩,h1⟩
 ·exact .inl ⟨h3,fun j hj=>by rw [← (hn j (by rw [hl];exact hj)).1];exact h1 j (by rw [hl];exact hj)⟩
theorem pcust (p2:Option Addr) (m2 c2:Nat) (xs:List book.Cu) (bk:List Cm) (a:Option Addr) (n cap:Nat) (q me:Int) (w:World) (h:Sees w p2 m2 xs bk) (hm:m2≤120):Calls Tryz.prog 24 #[.agg #[.slice p2 m2 c2,.slice a n cap,zI q],zI me] w fun e w'=>CusP w bk me e w':=by
 have HSE:Hid (Sees w p2 m2 xs bk):=h;clear h;obtain ⟨W0,HWW,H0s,H0r,H0B,hs0⟩:=sh2 w #[.slice p2 m2 c2,.slice a n cap,zI q] 87 #[zI 0,zI 0,zI 0,zI 0,zI 0,zI 0,zS,zS] 54;go_enter Tryz.func24,Tryz.ntmps24;go_upto_region 1 with fail
 rw [HWW.o];clear HWW;have HFI:Hid (Calls Tryz.prog 51 #[.agg #[.slice p2 m2 c2],zI me] W0 fun e w'=>book.FindPost W0 xs me e w'):=book.pfind W0 p2 m2 c2 xs me (HSE.o.below H0B.o).row (by omega);have qs0:W0.cell? ⟨w.heap.size,0,none⟩=some (.slice p2 m2 c2):=H0s.o.cell 0
 go_wp2_with (first
  | (refine zqw rfl rfl rfl H0s zqu87 ?_)
  | (refine zqw rfl rfl rfl H0r zqu54 ?_)
  | fail)
 refine HFI.o.mono ?_;rintro e w1 ⟨x,f,rfl,hfi,hb1⟩;have H1s:=shN H0s hb1;have H1r:=shN H0r hb1;have H1B:=shB H0B hb1;have hsw1:W0.heap.size≤w1.heap.size:=hb1.size;clear hb1 H0s H0r H0B;clear qs0;have hff:=find_first HSE.o.len HSE.o.num hfi;clear hfi HFI;rcases hff with ⟨rfl,hnone⟩ | ⟨k,rfl,rfl,hfirst,hkx⟩
 ·have HNO:Hid (NoneAt bk me):=hnone;clear hnone
  go_wp2_with (first
   | (refine zql rfl rfl rfl rfl zqu54 (by simp [Value.oneCell']) H1r rfl ?_)
   | (refine zqw rfl rfl rfl H1s zqu87 ?_)
   | (refine zqw rfl rfl rfl H1r zqu54 ?_)
   | fail)
  intro W2 hU;have H2s:=shK hU H1s (by omega);have H2r:Hid (Blk W2 (w.heap.size+1) #[zI 0,zI 0,zI 0,zI 0,zI 0,zI 0,zS,zS] 54):=hU.blk;have H2B:=shV hU H1B (by omega);have hsW2:W2.heap.size=w1.heap.size:=hU.size;clear hU H1s H1r H1B;have Rr0:Hid (W2.cell? ⟨w.heap.size+1,0,none⟩=some (zI 0)):=H2r.o.cell 0;have Rr1:Hid (W2.cell? ⟨w.heap.size+1,1,none⟩=some (zI 0)):=H2r.o.cell 1;have Rr2:Hid (W2.cell? ⟨w.heap.size+1,2,none⟩=some (zI 0)):=H2r.o.cell 2;have Rr3:Hid (W2.cell? ⟨w.heap.size+1,3,none⟩=some (zI 0)):=H2r.o.cell 3;have Rr4:Hid (W2.cell? ⟨w.heap.size+1,4,none⟩=some (zI 0)):=H2r.o.cell 4;have Rr5:Hid (W2.cell? ⟨w.heap.size+1,5,none⟩=some (zI 0)):=H2r.o.cell 5;have Rr6:Hid (W2.cell? ⟨w.heap.size+1,6,none⟩=some (zS)):=H2r.o.cell 6;have Rr7:Hid (W2.cell? ⟨w.heap.size+1,7,none⟩=some (zS)):=H2r.o.cell 7;go_wp2_with fail;exact bodyPost_ret (v:= .tuple #[.agg #[zI 0,zI 0,zI 0,zI 0,zI 0,zI 0,zS,zS],zI 18]) (by simp [results,Tryz.results24,Rr0.o,Rr1.o,Rr2.o,Rr3.o,Rr4.o,Rr5.o,Rr6.o,Rr7.o,go_sem]) rfl ⟨H2B.o,.inl ⟨rfl,HNO.o⟩⟩
 ·have HFT:Hid (FirstAt bk me k):=hfirst;have HSW:Hid (Sees w1 p2 m2 xs bk):=HSE.o.below H1B.o;have HKB:Hid (k<bk.length):=by rw [← HSE.o.len];exact hkx
  have HDS:Hid (tar.Came w (xs.getD k book.cu0).dp (xs.getD k book.cu0).dn (xs.getD k book.cu0).dc (bk.getD k cm0).a.ds∧book.RowS w (xs.getD k book.cu0).sp (xs.getD k book.cu0).sn (bk.getD k cm0).so):=⟨HSE.o.ds k hkx,HSE.o.so k hkx⟩
  obtain ⟨cb,co,hpp,hcl,hcc⟩:∃ b off,p2=some ⟨b,off,none⟩∧b<w1.heap.size∧∀ i j,i<m2→j<8→w1.cell? ⟨b,off+i*8+j,none⟩=(xs.getD i book.cu0).cs[j]?:=by
   rcases HSW.o.row.2 with h | h
   ·have:=HSW.o.row.1;omega
   ·exact h
  subst hpp;have hkm:k<m2:=by have:=HSW.o.row.1;omega
  have hnm:=HSW.o.num k hkx;have hds:=HSW.o.ds k hkx;have y0:w1.cell? ⟨cb,co+k*8,none⟩=some (zI (bk.getD k cm0).a.me):=(hcc k 0 hkm (by decide)).trans (by rw [← hnm.1];rfl);have y1:w1.cell? ⟨cb,co+k*8+1,none⟩=some (zI (bk.getD k cm0).a.rv):=(hcc k 1 hkm (by decide)).trans (by rw [← hnm.2.1];rfl);have y2:w1.cell? ⟨cb,co+k*8+2,none⟩=some (zI (bk.getD k cm0).a.nx):=(hcc k 2 hkm (by decide)).trans (by rw [← hnm.2.2.1];rfl);have y3:w1.cell? ⟨cb,co+k*8+3,none⟩=some (zI (bk.getD k cm0).a.mo):=(hcc k 3 hkm (by decide)).trans (by rw [← hnm.2.2.2.1];rfl);have y4:w1.cell? ⟨cb,co+k*8+4,none⟩=some (zI (bk.getD k cm0).a.bo):=(hcc k 4 hkm (by decide)).trans (by rw [← hnm.2.2.2.2.1];rfl);have y5:w1.cell? ⟨cb,co+k*8+5,none⟩=some (zI (bk.getD k cm0).a.fr):=(hcc k 5 hkm (by decide)).trans (by rw [← hnm.2.2.2.2.2];rfl);have y6:w1.cell? ⟨cb,co+k*8+6,none⟩=some (.slice (xs.getD k book.cu0).dp (xs.getD k book.cu0).dn (xs.getD k book.cu0).dc):=hcc k 6 hkm (by decide);have y7:w1.cell? ⟨cb,co+k*8+7,none⟩=some (.slice (xs.getD k book.cu0).sp (xs.getD k book.cu0).sn (xs.getD k book.cu0).sc):=hcc k 7 hkm (by decide);clear hcc hnm;generalize (xs.getD k book.cu0).dp=dp at *;generalize (xs.getD k book.cu0).dn=dn at *;generalize (xs.getD k book.cu0).dc=dc at *;generalize hy:(bk.getD k cm0).a=y at *;have HY:Hid ((bk.getD k cm0).a=y):=hy;clear hy;generalize (xs.getD k book.cu0).sp=sp at *;generalize (xs.getD k book.cu0).sn=sn at *;generalize (xs.getD k book.cu0).sc=sc at *;clear hds hfirst hkx HSW HSE;have qs0:w1.cell? ⟨w.heap.size,0,none⟩=some (.slice (some ⟨cb,co,none⟩) m2 c2):=H1s.o.cell 0
  go_wp2_with (first
   | (refine zql rfl rfl rfl rfl zqu54 (by simp [Value.oneCell']) H1r rfl ?_)
   | (refine zqw rfl rfl rfl H1s zqu87 ?_)
   | (refine zqw rfl rfl rfl H1r zqu54 ?_)
   | fail)
  intro W2 hU;have H2s:=shK hU H1s (by omega);have H2r:Hid (Blk W2 (w.heap.size+1) #[zI y.me,zI y.rv,zI y.nx,zI y.mo,zI y.bo,zI y.fr,.slice dp dn dc,.slice sp sn sc] 54):=hU.blk;have H2B:=shV hU H1B (by omega);have hsW2:W2.heap.size=w1.heap.size:=hU.size;clear hU H1s H1r H1B;clear qs0;obtain ⟨Rr0,Rr1,Rr2,Rr3,Rr4,Rr5,Rr6,Rr7⟩:=shc8 H2r;go_wp2_with fail;exact bodyPost_ret (v:= .tuple #[.agg #[zI y.me,zI y.rv,zI y.nx,zI y.mo,zI y.bo,zI y.fr,.slice dp dn dc,.slice sp sn sc],zI 0]) (by simp [results,Tryz.results24,Rr0.o,Rr1.o,Rr2.o,Rr3.o,Rr4.o,Rr5.o,Rr6.o,Rr7.o,go_sem]) rfl ⟨H2B.o,.inr ⟨k,dp,dn,dc,sp,sn,sc,by rw [HY.o],HFT.o,HKB.o,by rw [HY.o];exact HDS.o.1,HDS.o.2⟩⟩
open book (Tells)
open acc (SellIs GrantIs RekeyIs OweIs)
open ora (Pr IssueIs)
open token (Tok fmtL)
theorem cm_mem {bk:List Cm} {j:Nat} (h:j<bk.length):bk.getD j cm0∈bk:=by
 have e:bk.getD j cm0=bk[j]:=by simp [List.getD,List.getElem?_eq_getElem h]
 rw [e];exact List.getElem_mem _
def SoldOk (s:So):Prop:=(1≤s.id∧s.id≤1048575)∧(0≤s.tg∧s.tg≤65535)∧((s.cl=0∧1≤s.am∧s.am≤2097151)∨(s.cl=2∧1≤s.am∧s.am≤15))
theorem sold_tok {s:So} (h:SoldOk s):(Tok.mk s.cl.toNat s.id.toNat s.am.toNat s.tg.toNat).ok∧(Tok.mk s.cl.toNat s.id.toNat s.am.toNat s.tg.toNat).v = .agg #[zI s.cl,zI s.id,zI s.am,zI s.tg]:=by
 obtain ⟨h1,h2,h3⟩:=h;refine ⟨⟨?_,?_,?_,?_,?_,?_,?_,?_⟩,?_⟩
 ·show s.cl.toNat≤3;omega
 ·show 1≤s.id.toNat;omega
 ·show s.id.toNat≤1048575;omega
 ·show s.tg.toNat≤65535;omega
 ·show s.am.toNat≤2097151;omega
 ·intro h;have h:s.cl.toNat=0:=h;show 1≤s.am.toNat;omega
 ·intro h;have h:s.cl.toNat=2:=h;show 1≤s.am.toNat∧s.am.toNat≤15;omega
 ·intro h;have h:s.cl.toNat=1∨s.cl.toNat=3:=h;omega
 ·unfold token.Tok.v;show Value.agg #[zI (s.cl.toNat:Int),zI (s.id.toNat:Int),zI (s.am.toNat:Int),zI (s.tg.toNat:Int)]=_;rw [Int.toNat_of_nonneg (by omega),Int.toNat_of_nonneg (by omega),Int.toNat_of_nonneg (by omega),Int.toNat_of_nonneg (by omega)]
def AllOk (bk:List Cm):Prop:=∀ x∈bk,∀ s∈x.so,SoldOk s
theorem rekey_rv {a b:Ac} {l:Bi} (h:RekeyIs a b l 0):0≤a.rv∧a.rv<15:=by
 rcases h with ⟨_,_,_,h⟩ | ⟨_,_,_,_,h⟩ | ⟨_,_,_,_,_,h⟩ | ⟨ha,hr,_,_,_,_⟩
 ·cases h
 ·cases h
 ·cases h
 ·exact ⟨ha.2.2.1.1,hr⟩
theorem hap_sold {t:Tm} {c c':Cm} {v:Ev} (h:book.HapIs t c v c' 0) (hv:EMay v) (h1:v.kd≠1) (hs:∀ s∈c.so,SoldOk s):∀ s∈c'.so,SoldOk s:=by
 rcases h with ⟨p,b,q,r⟩ | ⟨p,b,l,e,q,⟨x,r⟩ | ⟨_,_,r⟩ | ⟨x,y,_,z⟩⟩
 ·rw [r rfl];exact hs
 ·exact absurd r.symm x
 ·cases r
 ·rw [z];intro s hsm;rcases List.mem_append.1 hsm with h | h
  ·exact hs s h
  ·rw [List.mem_singleton.1 h];unfold book.soldOf;unfold EMay at hv;by_cases k4:v.kd=4
   ·rw [if_pos k4];subst x;rcases q with ⟨a,_⟩ | ⟨a,_⟩ | ⟨_,q⟩
    ·omega
    ·omega
    ·have hr:=rekey_rv q;refine ⟨?_,?_,.inr ⟨rfl,?_⟩⟩
     ·show 1≤v.id∧v.id≤1048575;omega
     ·show 0≤v.tg∧v.tg≤65535;omega
     ·show 1≤c.a.rv+1∧c.a.rv+1≤15;omega
   ·rw [if_neg k4];refine ⟨?_,?_,.inl ⟨rfl,?_⟩⟩
    ·show 1≤v.id∧v.id≤1048575;omega
    ·show 0≤v.tg∧v.tg≤65535;omega
    ·show 1≤v.un∧v.un≤2097151;omega
theorem step_sold {t:Tm} {bk bk':List Cm} {v:Ev} (h:book.StepIs t bk v bk' 0) (hs:AllOk bk):AllOk bk':=by
 rcases h with ⟨_,r⟩ | ⟨_,_,_,r⟩ | ⟨_,_,_,_,s⟩ | ⟨_,_,_,r⟩ | ⟨p,q,k,c',hk,hh,s⟩
 ·cases r
 ·cases r
 ·rw [s];intro x hx;rcases List.mem_append.1 hx with h | h
  ·exact hs x h
  ·rw [List.mem_singleton.1 h];intro y hy;cases hy
 ·cases r
 ·rw [s rfl];intro x hx;rcases List.mem_or_eq_of_mem_set hx with h | h
  ·exact hs x h
  ·rw [h];exact hap_sold hh p q (hs _ (cm_mem hk.1))
theorem states_sold {t:Tm} {l:List Ev} {k:Nat} {st:Nat→List Cm} (h0:st 0=[]) (h:∀ i,i<k→book.StepIs t (st i) (l.getD i ev0) (st (i+1)) 0):∀ i,i≤k→AllOk (st i)
 | 0,_=>by rw [h0];intro x hx;cases hx
 | i+1,hk=>step_sold (h i (by omega)) (states_sold h0 h i (by omega))
theorem load_sold {t:Tm} {c:List Int} {bk:List Cm} {f:Int} (h:LoadIs t c bk f):∀ x∈bk,∀ j,j<x.so.length→SoldOk (x.so.getD j so0):=by
 have hall:AllOk bk:=by
  obtain ⟨l,e,_,⟨_,rfl,_⟩ | ⟨_,a,q⟩⟩:=h
  ·intro x hx;cases hx
  ·rcases q with ⟨_,_,rfl,_⟩ | ⟨_,_,rfl,_⟩ | ⟨_,_,k,st,s0,s1,⟨_,rfl,_⟩ | ⟨_,_,_,rfl,_⟩⟩
   ·intro x hx;cases hx
   ·intro x hx;cases hx
   ·exact states_sold s0 s1 k (Nat.le_refl _)
   ·intro x hx;cases hx
 intro x hx j hj;have e:x.so.getD j so0=x.so[j]:=by simp [List.getD,List.getElem?_eq_getElem hj]
 rw [e];exact hall x hx _ (List.getElem_mem _)
open token (TTab)
open rcp (Rc rc0)
open cell (RowW)
def BGot (w:World) (R:Ac→Bi→Int→Prop) (e:Ending) (w':World):Prop:=∃ b l p len cap f,e = .returned (.tuple #[acc.Ac.v b p len cap,acc.Bi.v l,zI f])∧R b l f∧Below w.heap.size w w'
theorem BGot.of {w:World} {R:Ac→Bi→Int→Prop} {e:Ending} {w':World} (h:acc.BPost w R e w'):BGot w R e w':=by
 obtain ⟨b,l,p,len,cap,f,h1,h2,_,h4⟩:=h;exact ⟨b,l,p,len,cap,f,h1,h2,h4⟩
def TagP (w:World) (o:List Pr) (me rv bd dr cl id am:Int) (e:Ending) (w':World):Prop:=∃ p5 n5 c5 o2 tg f,e = .returned (.tuple #[.agg #[.slice p5 n5 c5],.agg #[zI cl,zI id,zI am,zI tg],zI f])∧IssueIs o me rv bd dr o2 tg f∧ora.RowP w' p5 n5 o2∧(p5=none→c5=0)∧n5≤c5∧(∀ x,p5=some x→w.heap.size≤x.block)∧Below w.heap.size w w'
theorem ptagged (ao:Option Addr) (no ko:Nat) (o:List Pr) (y:Ac) (dp:Option Addr) (dn dc:Nat) (cl id am dr:Int) (K:Tok) (w:World) (ht:TTab w) (hk:K.ok) (hv:K.v = .agg #[zI cl,zI id,zI am,zI 0]) (ho:ora.RowP w ao no o):Calls Tryz.prog 123 #[.agg #[.slice ao no ko],.agg #[zI y.me,zI y.rv,zI y.nx,zI y.mo,zI y.bo,zI y.fr,.slice dp dn dc],.agg #[zI cl,zI id,zI am,zI 0],zI dr] w fun e w'=>TagP w o y.me y.rv (K.body:Int) dr cl id am e w':=by
 have HO:Hid (∀ W,Below w.heap.size w W→ora.RowP W ao no o):=fun W hW=>ho.below hW
 have HBO:Hid (∀ W,Below w.heap.size w W→Calls Tryz.prog 162 #[.agg #[zI cl,zI id,zI am,zI 0]] W fun e w'=>e = .returned (.tuple #[zI (K.body:Int),zI 0])∧Below W.heap.size W w'):=fun W hW=>by
  have hh:=token.body_ok K W (ht.below hW) hk;rw [hv] at hh;exact hh
 clear ht hk hv ho;generalize (K.body:Int)=bd at *;obtain ⟨W0,HWW,H0o,H0a,H0k,H0r,H0q,H0B,hs0⟩:=sh5 w #[.slice ao no ko] 39 #[zI y.me,zI y.rv,zI y.nx,zI y.mo,zI y.bo,zI y.fr,.slice dp dn dc] 51 #[zI cl,zI id,zI am,zI 0] 96 #[zS] 39 #[zI 0,zI 0,zI 0,zI 0] 96;go_enter Tryz.func123,Tryz.ntmps123;go_upto_region 1 with fail
 rw [HWW.o];clear HWW;have HBD:=HBO.o W0 H0B.o;clear HBO
 go_wp2_with (first
  | (refine zqw rfl rfl rfl H0o zqu39 ?_)
  | (refine zqw rfl rfl rfl H0a zqu51 ?_)
  | (refine zqw rfl rfl rfl H0k zqu96 ?_)
  | (refine zqw rfl rfl rfl H0r zqu39 ?_)
  | (refine zqw rfl rfl rfl H0q zqu96 ?_)
  | fail)
 refine HBD.mono ?_;rintro e w1 ⟨rfl,hb1⟩;have H1o:=shN H0o hb1;have H1a:=shN H0a hb1;have H1k:=shN H0k hb1;have H1r:=shN H0r hb1;have H1q:=shN H0q hb1;have H1B:=shB H0B hb1;have hsw1:W0.heap.size≤w1.heap.size:=hb1.size;clear hb1 H0o H0a H0k H0r H0q H0B;clear HBD;have HIS:Hid (Calls Tryz.prog 163 #[.agg #[.slice ao no ko],zI y.me,zI y.rv,zI bd,zI dr] w1 fun e w'=>ora.IssueQ w1 o y.me y.rv bd dr e w'):=ora.poi ao no ko o y.me y.rv bd dr w1 (HO.o _ H1B.o);have qa0:w1.cell? ⟨w.heap.size+1,0,none⟩=some (zI y.me):=H1a.o.cell 0;have qa1:w1.cell? ⟨w.heap.size+1,1,none⟩=some (zI y.rv):=H1a.o.cell 1
 go_wp2_with (first
  | (refine zqw rfl rfl rfl H1o zqu39 ?_)
  | (refine zqw rfl rfl rfl H1a zqu51 ?_)
  | (refine zqw rfl rfl rfl H1k zqu96 ?_)
  | (refine zqw rfl rfl rfl H1r zqu39 ?_)
  | (refine zqw rfl rfl rfl H1q zqu96 ?_)
  | fail)
 clear qa0 qa1;refine HIS.o.mono ?_;rintro e w2 ⟨v5,o2,tg,f5,rfl,hpw,hisx,hb2⟩;have H2o:=shN H1o hb2;have H2a:=shN H1a hb2;have H2k:=shN H1k hb2;have H2r:=shN H1r hb2;have H2q:=shN H1q hb2;have H2B:=shB H1B hb2;have hsw2:w1.heap.size≤w2.heap.size:=hb2.size;clear hb2 H1o H1a H1k H1r H1q H1B;obtain ⟨p5,c5,rfl,hrp,hnl,hcp,hnw⟩:=hpw.lies;have HII:Hid (IssueIs o y.me y.rv bd dr o2 tg f5):=hisx;have HRP:Hid (ora.RowP w2 p5 o2.length o2):=hrp;have HNL:Hid ((p5=none→c5=0)∧o2.length≤c5):=⟨hnl,hcp⟩
 have HNW:Hid (∀ x,p5=some x→w1.heap.size≤x.block∧x.block<w2.heap.size):=hnw;clear hrp hnl hcp hnw hisx hpw HIS HO;generalize o2.length=n5 at *;have H3E:Hid (Below w2.heap.size w2 w2):=Below.refl _ _;obtain ⟨W3,HWW,H4n,H4E,hsW3⟩:=sh1 w2 #[.slice p5 n5 c5] 39;have H4o:=shN H2o H4E.o;have H4a:=shN H2a H4E.o;have H4k:=shN H2k H4E.o;have H4r:=shN H2r H4E.o;have H4q:=shN H2q H4E.o;have H4B:=shB H2B H4E.o;go_upto_region 3 with fail
 clear H2o H2a H2k H2r H2q H3E H2B;rw [HWW.o];clear HWW;go_wp2_with (first | (refine wp_let1 rfl 3 _ _ rfl (w.heap.size+1+1) 3 rfl .i64 tg rfl (by kernel_rfl) #[zI cl,zI id,zI am,zI 0] 96 H4k.o (by simp) ?_) | fail)
 intro W4 hU;have HRW:Hid (ora.RowP W4 p5 n5 o2):=rowP_off (HRP.o.below H4E.o) (fun x hx=>by have:=HNW.o x hx;omega) hU;have H5o:=shK hU H4o (by omega);have H5a:=shK hU H4a (by omega);have H5k:Hid (Blk W4 (w.heap.size+1+1) #[zI cl,zI id,zI am,zI tg] 96):=hU.blk;have H5r:=shK hU H4r (by omega);have H5q:=shK hU H4q (by omega);have H5n:=shK hU H4n (by omega);have H5B:=shV hU H4B (by omega);have hsW4:W4.heap.size=W3.heap.size:=hU.size;clear hU H4o H4a H4k H4r H4q H4n H4E H4B;clear HRP;go_wp2_with fail;refine wp_region_held_drew (S:=fun v=>Blk v (w2.heap.size) #[.slice p5 n5 c5] 39∧Blk v (w.heap.size+1+1) #[zI cl,zI id,zI am,zI tg] 96) (by kernel_rfl) ⟨Blk.drew H5n.o 1,Blk.drew H5k.o 1⟩ (fun hHeld=>?_);refine zqt 0 35 (.agg #[.slice p5 n5 c5]) rfl rfl (by kernel_rfl) zid (Or.inl ⟨by rfl,fun v hv=>by have g0:=hv.1.cell 0;clear hv;go_simp⟩) hHeld ?_;simp only [zq];refine zqt 1 36 (.agg #[zI cl,zI id,zI am,zI tg]) rfl rfl (by kernel_rfl) zid (Or.inl ⟨by rfl,fun v hv=>by have g0:=hv.2.cell 0;have g1:=hv.2.cell 1;have g2:=hv.2.cell 2;have g3:=hv.2.cell 3;clear hv;go_simp⟩) hHeld ?_;simp only [zq];refine zqs 2 37 (zI f5) rfl rfl (by kernel_rfl) zid rfl (fun v hv=>by clear hv;go_simp) hHeld ?_;simp only [zq];refine zqo 3 (by kernel_rfl) rfl (fun K hK=>?_);rw [if_pos (by rfl)];refine wp_letOp 39 _ _ rfl (w.heap.size+1+1+1) rfl #[.slice p5 n5 c5] rfl (by kernel_rfl) (by simp [Value.oneCell']) #[zS] 39 (Blk.drew H5r.o 1) rfl rfl ?_;intro V1 hU;have H6o:Hid (Blk V1 (w.heap.size) #[.slice ao no ko] 39):=hU.keep (Blk.drew H5o.o 1) (by omega);have H6a:Hid (Blk V1 (w.heap.size+1) #[zI y.me,zI y.rv,zI y.nx,zI y.mo,zI y.bo,zI y.fr,.slice dp dn dc] 51):=hU.keep (Blk.drew H5a.o 1) (by omega);have H6k:Hid (Blk V1 (w.heap.size+1+1) #[zI cl,zI id,zI am,zI tg] 96):=hU.keep (Blk.drew H5k.o 1) (by omega);have H6r:Hid (Blk V1 (w.heap.size+1+1+1) #[.slice p5 n5 c5] 39):=hU.blk
 have H6q:Hid (Blk V1 (w.heap.size+1+1+1+1) #[zI 0,zI 0,zI 0,zI 0] 96):=hU.keep (Blk.drew H5q.o 1) (by omega);have H6n:Hid (Blk V1 (w2.heap.size) #[.slice p5 n5 c5] 39):=hU.keep (Blk.drew H5n.o 1) (by omega);have HRV1:Hid (ora.RowP V1 p5 n5 o2):=rowP_off (HRW.o.below (bel_drew (Below.refl _ _) 1)) (fun x hx=>by have:=HNW.o x hx;omega) hU;have H6B:Hid (Below w.heap.size w V1):=hU.bel _ _ (by omega) H5B.o.drew;clear hU H5o H5a H5k H5r H5q H5n H5B;refine hK.o _ _ ⟨H6n.o,H6k.o⟩ (fun hHeld=>?_);clear hK K;refine zqo 4 (by kernel_rfl) rfl (fun K hK=>?_);rw [if_pos (by rfl)];refine wp_letOp 96 _ _ rfl (w.heap.size+1+1+1+1) rfl #[zI cl,zI id,zI am,zI tg] rfl (by kernel_rfl) (by simp [Value.oneCell']) #[zI 0,zI 0,zI 0,zI 0] 96 H6q.o rfl rfl ?_;intro V2 hU;have H7o:=shK hU H6o (by omega);have H7a:=shK hU H6a (by omega);have H7k:=shK hU H6k (by omega);have H7r:=shK hU H6r (by omega);have H7q:Hid (Blk V2 (w.heap.size+1+1+1+1) #[zI cl,zI id,zI am,zI tg] 96):=hU.blk;have H7n:=shK hU H6n (by omega);have HRV2:Hid (ora.RowP V2 p5 n5 o2):=rowP_off HRV1.o (fun x hx=>by have:=HNW.o x hx;omega) hU;have H7B:=shV hU H6B (by omega);clear hU H6o H6a H6k H6r H6q H6n H6B;refine hK.o _ _ ⟨H7n.o,H7k.o⟩ (fun hHeld=>?_);clear hK K;refine zqs 5 10 (zI f5) rfl rfl (by kernel_rfl) zid rfl (fun v hv=>by clear hv;go_simp) hHeld ?_;simp only [zq];refine wpAnyH_done (by kernel_rfl) ?_ _;clear hHeld;have Rr0:Hid (V2.cell? ⟨w.heap.size+1+1+1,0,none⟩=some (.slice p5 n5 c5)):=H7r.o.cell 0;obtain ⟨Rq0,Rq1,Rq2,Rq3⟩:=shc4 H7q;go_wp2_with fail;exact bodyPost_ret (v:= .tuple #[.agg #[.slice p5 n5 c5],.agg #[zI cl,zI id,zI am,zI tg],zI f5]) (by simp [results,Tryz.results123,Rr0.o,Rq0.o,Rq1.o,Rq2.o,Rq3.o,go_sem]) rfl ⟨p5,n5,c5,o2,tg,f5,rfl,HII.o,HRV2.o,HNL.o.1,HNL.o.2,(fun x hx=>by have:=HNW.o x hx;omega),H7B.o⟩
end vnd
namespace book
open Go.RowKit cell
theorem ws_upd {w W:World} {base g:Nat} {cs:Array Value} {t:TypeId} {v:Value} {l:List Int} (h:Ws w base v l) (hU:Upd w W g cs t) (hg:g<base):Ws W base v l:=by
 refine ⟨h.1,?_⟩;rcases h.2 with hn | ⟨g',cap,cur,hv,hb,hc,rest⟩
 ·exact .inl hn
 ·exact .inr ⟨g',cap,cur,hv,hb,by rw [hU.oth g' (by omega)];exact hc,rest⟩
theorem kenc:KEnc:=by
 intro w v hwf;clear hwf;unfold Ev.v;have hmf:∀ (fn:Fn) (first cap:Array Value) (w:World),(Instr.makeFunc fn first cap).run Tryz.prog w = .ok (.func fn first cap) w:=fun _ _ _ _=>rfl;have HMU:Hid (∀ W,Calls Tryz.prog 67 #[.agg #[zI v.kd,zI v.me,zI v.mo,zI v.id,zI v.te,zI v.de,zI v.fe,zI v.pr,zI v.ch,zI v.un,zI v.tg,zI v.ow,zI v.bp]] W fun e w'=>MustPost W v e w'):=fun W=>bmust v W;have HWO:Hid (EMay v→∀ W,Calls Tryz.prog 153 #[.agg #[zI v.kd,zI v.me,zI v.mo,zI v.id,zI v.te,zI v.de,zI v.fe,zI v.pr,zI v.ch,zI v.un,zI v.tg,zI v.ow,zI v.bp]] W fun e w'=>∃ V,e = .returned V∧Ws w' W.heap.size V (evL v)∧Below W.heap.size W w'):=fun hm W=>bwords v (may_word hm) W;obtain ⟨W1,HWW,HX1,HE1,HB1,-⟩:=sh2 w #[zI v.kd,zI v.me,zI v.mo,zI v.id,zI v.te,zI v.de,zI v.fe,zI v.pr,zI v.ch,zI v.un,zI v.tg,zI v.ow,zI v.bp] 72 #[zI 0] 27;go_enter_defers Tryz.func107,Tryz.ntmps107;go_upto_region 2 with fail
 rw [HWW.o];clear HWW;obtain ⟨c0,c1,c2,c3,c4,c5,c6,c7,c8,c9,c10,c11,c12⟩:=scl13 HX1;go_wp2_with fail;refine (HMU.o _).mono ?_;rintro e W2 ⟨hm,hb⟩;have HX2:=shN HX1 hb;have HE2:=shN HE1 hb;have HB2:=shB HB1 hb;clear hb HX1 HE1 HB1 HMU c0 c1 c2 c3 c4 c5 c6 c7 c8 c9 c10 c11 c12;rcases hm with ⟨hm,rfl⟩ | ⟨hm,rfl⟩
 ·have HY:Hid (EMay v):=hm;have HWV:=HWO.o hm;have HWV':Hid (∀ W,Calls Tryz.prog 153 #[.agg #[zI v.kd,zI v.me,zI v.mo,zI v.id,zI v.te,zI v.de,zI v.fe,zI v.pr,zI v.ch,zI v.un,zI v.tg,zI v.ow,zI v.bp]] W fun e w'=>∃ V,e = .returned V∧Ws w' W.heap.size V (evL v)∧Below W.heap.size W w'):=HWV;clear hm HWO HWV;obtain ⟨c0,c1,c2,c3,c4,c5,c6,c7,c8,c9,c10,c11,c12⟩:=scl13 HX2;go_wp2_with fail;refine (HWV'.o _).mono ?_;rintro e W3 ⟨V,rfl,hV,hb⟩;have HE3:=shN HE2 hb;have HB3:=shB HB2 hb;have HV3:Hid (Ws W3 W2.heap.size V (evL v)):=hV;have hgs:Hid (w.heap.size+1<W2.heap.size):=HE2.o.lt;clear hb hV HX2 HE2 HB2 HWV' c0 c1 c2 c3 c4 c5 c6 c7 c8 c9 c10 c11 c12;go_wp2_with (first | (refine wp_let1 rfl 27 _ _ rfl (w.heap.size+1) 0 rfl .i64 0 rfl (by kernel_rfl) #[zI 0] 27 HE3.o (by decide) ?_) | fail)
  intro W4 hU;have HE4:Hid (Blk W4 (w.heap.size+1) #[zI 0] 27):=hU.blk;have HB4:=shV hU HB3 (by omega);have HV4:Hid (Ws W4 W2.heap.size V (evL v)):=ws_upd HV3.o hU hgs.o;clear hU;go_wp2_with fail;refine leaves_cons (f:=152) (args:=#[.pointer (some ⟨w.heap.size+1,0,none⟩)]) (by simp) (by simp [go_sem]) ?_;refine (encode_idle (w.heap.size+1) 0 _ HE4.o).mono ?_;rintro e u' w5 ⟨rfl,hs,W,hb,hU⟩;have r0:w5.cell? ⟨w.heap.size+1,0,none⟩=some (zI 0):=hU.blk.cell 0;have HB5:Below w.heap.size w w5:=hU.bel _ _ (by omega) (bel_step HB4.o hb);have HV5:Ws w5 W2.heap.size V (evL v):=ws_upd (HV4.o.next hb) hU hgs.o;obtain ⟨a,cap,hva,hrow,h1,h2⟩:=HV5.row;show Leaves _ _ _ _ [] (settle u') w5;rw [hs];refine ⟨.tuple #[V,zI 0],by simp [results,Tryz.results107,r0,go_sem],?_⟩;subst hva;exact ⟨a,_,cap,evL v,0,rfl,.inl ⟨HY.o,rfl,rfl⟩,hrow,h1,h2,by rw [evL_len];exact Nat.le_refl _,HB5⟩
 ·have HN:Hid (¬ EMay v):=hm;clear hm HWO;refine leaves_cons (f:=152) (args:=#[.pointer (some ⟨w.heap.size+1,0,none⟩)]) (by simp) (by simp [go_sem]) ?_;refine (encode_caught (w.heap.size+1) 0 5 _ HE2.o).mono ?_;rintro e u' w5 ⟨rfl,hs,W,hb,hU⟩;have r0:w5.cell? ⟨w.heap.size+1,0,none⟩=some (zI 5):=hU.blk.cell 0;have HB5:Below w.heap.size w w5:=hU.bel _ _ (by omega) (bel_step HB2.o hb);show Leaves _ _ _ _ [] (settle u') w5;rw [hs];refine ⟨.tuple #[zS,zI 5],by simp [results,Tryz.results107,r0,go_sem],?_⟩;exact ⟨none,0,0,[],5,rfl,.inr ⟨HN.o,rfl,rfl⟩,RowU.nil _ _,fun _=>rfl,Nat.le_refl _,Nat.zero_le _,HB5⟩
end book
namespace vnd
open disk (RepIs AppIs)
open book (Ev ev0 EMay evL evOf EncIs DecIs Cm cm0 So so0 BookIs Sees ECame FirstAt NoneAt)
open acc (Ac Tm Bi TCame ACame)
open cell (Wr RowU)
open Go.RowKit
theorem enc_yes {v:Ev} {ws:List Int} {g:Int} (h:EncIs v ws g) (hv:EMay v):(∀ x∈ws,0≤x∧x<4294967296)∧g=0:=by
 rcases h with ⟨_,rfl,rfl⟩ | ⟨n,_⟩
 ·exact ⟨book.may_word hv,rfl⟩
 ·exact absurd hv n
theorem pkeep (p2:Option Addr) (m2 c2:Nat) (a:Option Addr) (n cap:Nat) (c:List Int) (l:List Ev) (v:Ev) (w:World) (h:Dk w a n cap c) (hk:KeptIs c l 0) (hl:l.length≤120) (hv:EMay v):Calls Tryz.prog 61 #[.agg #[.slice p2 m2 c2,.slice a n cap,zI (l.length:Int)],.agg #[zI v.kd,zI v.me,zI v.mo,zI v.id,zI v.te,zI v.de,zI v.fe,zI v.pr,zI v.ch,zI v.un,zI v.tg,zI v.ow,zI v.bp]] w fun e w'=>WrGot w (KeepIs c v) e w':=by
 have HC:Hid (∀ W,Below w.heap.size w W→Dk W a n cap c):=fun W hW=>h.below hW;have HKI:Hid (KeptIs c l 0):=hk;have HV:Hid (EMay v):=hv;clear h hk hv;obtain ⟨W0,HWW,H0s,H0v,H0B,hs0⟩:=sh2 w #[.slice p2 m2 c2,.slice a n cap,zI (l.length:Int)] 87 #[zI v.kd,zI v.me,zI v.mo,zI v.id,zI v.te,zI v.de,zI v.fe,zI v.pr,zI v.ch,zI v.un,zI v.tg,zI v.ow,zI v.bp] 72;go_enter Tryz.func61,Tryz.ntmps61;go_upto_region 1 with fail
 rw [HWW.o];clear HWW;by_cases h1:l.length=120
 ·have d1:((l.length:Int) == 120)=true:=by simp;omega
  have HF:Hid (KeepIs c v [] 16):=⟨l,0,HKI.o,.inl ⟨by omega,rfl,rfl⟩⟩
  clear h1;have qs2:W0.cell? ⟨w.heap.size,2,none⟩=some (zI (l.length:Int)):=H0s.o.cell 2
  go_wp2_with (first
   | (refine zqw rfl rfl rfl H0s zqu87 ?_)
   | (refine zqw rfl rfl rfl H0v zqu72 ?_)
   | fail)
  go_ret2;exact ⟨none,0,0,[],16,rfl,HF.o,⟨rfl,.inl rfl⟩,(fun x hx=>by cases hx),Nat.le_refl _,Nat.zero_le _,H0B.o⟩
 ·have d1:((l.length:Int) == 120)=false:=by simp;omega
  have hl2:Hid (l.length<120):=(by omega:l.length<120)
  clear h1 hl;have HEN:Hid (Calls Tryz.prog 107 #[.agg #[zI v.kd,zI v.me,zI v.mo,zI v.id,zI v.te,zI v.de,zI v.fe,zI v.pr,zI v.ch,zI v.un,zI v.tg,zI v.ow,zI v.bp]] W0 fun e w'=>book.EncGot W0 v e w'):=book.kenc W0 v (book.wf_may HV.o);have qs2:W0.cell? ⟨w.heap.size,2,none⟩=some (zI (l.length:Int)):=H0s.o.cell 2
  go_wp2_with (first
   | (refine zqw rfl rfl rfl H0s zqu87 ?_)
   | (refine zqw rfl rfl rfl H0v zqu72 ?_)
   | fail)
  refine HEN.o.mono ?_;rintro e w1 ⟨ra,rn,rc,ws,g,rfl,hen,hrw,hrn,hrc,hr13,hb1⟩;have H1s:=shN H0s hb1;have H1v:=shN H0v hb1;have H1B:=shB H0B hb1;have hsw1:W0.heap.size≤w1.heap.size:=hb1.size;clear hb1 H0s H0v H0B;clear qs2;obtain ⟨hws,rfl⟩:=enc_yes hen HV.o;have HEI:Hid (EncIs v ws 0):=hen;clear hen HEN;have HAP:Hid (Calls Tryz.prog 108 #[.slice a n cap,.slice ra rn rc] w1 fun e w'=>disk.AppGot w1 c ws e w'):=(fun d:Dk w1 a n cap c=>disk.kappend w1 a n cap c ra rn rc ws d.row d.nil d.room d.bytes d.wd hrw hrn hrc (by omega) hws) (HC.o _ H1B.o)
  clear hrw hrn hrc hws;have qs1:w1.cell? ⟨w.heap.size,1,none⟩=some (.slice a n cap):=H1s.o.cell 1
  go_wp2_with (first
   | (refine zqw rfl rfl rfl H1s zqu87 ?_)
   | (refine zqw rfl rfl rfl H1v zqu72 ?_)
   | fail)
  refine HAP.o.mono ?_;rintro e w2 ⟨p3,m3,c3,ls,f3,rfl,hrow,hnew,hle,hsm,hai,hb2⟩;have H2s:=shN H1s hb2;have H2v:=shN H1v hb2;have H2B:=shB H1B hb2;have hsw2:w1.heap.size≤w2.heap.size:=hb2.size;clear hb2 H1s H1v H1B;clear qs1;have HF:Hid (KeepIs c v ls f3):=⟨l,0,HKI.o,.inr ⟨hl2.o,ws,0,HEI.o,.inr ⟨rfl,hai⟩⟩⟩
  have HRW:Hid (cell.RowW w2 p3 m3 ls):=hrow;have HNW:Hid (∀ x,p3=some x→w.heap.size≤x.block):=fun x hx=>Nat.le_trans (by omega) (hnew x hx);clear hrow hnew hai HAP HEI HKI HC hl2;go_wp2_with fail;go_ret2;exact ⟨p3,m3,c3,ls,f3,rfl,HF.o,HRW.o,HNW.o,hle,hsm,H2B.o⟩
open Go.ChangeShapes Go.WideShapes Go.ChangeAt Go.Deep
def Od.v (x:Od):Value:= .agg #[zI x.k,zI x.m,zI x.a,zI x.b,zI x.d]
theorem od_cells {H:Type} {enc:TypeId × Value→H} {W:World} {b1:Nat} {spare:Nat→Bool} {held:Bool} {fuel:Nat} {cs:List Value} {x:DataW H × List MemPlace}
  (hsz:cs.length=5) (hf:DataW.trod enc Tryz.prog W b1 spare held fuel 75 cs=some x) :
  ∃ x:Od,cs=x.cs.toList∧wf5 x:=by
 have hu:=Tryz.underlying75;have ci:Tryz.prog.cellsOf 3=1:=by kernel_rfl
 obtain ⟨c0,c1,c2,c3,c4,rfl⟩:∃ c0 c1 c2 c3 c4,cs=[c0,c1,c2,c3,c4]:=by
  match cs,hsz with
  | [c0,c1,c2,c3,c4],_=>exact ⟨c0,c1,c2,c3,c4,rfl⟩
 obtain ⟨xs,n,_,_,_,hlen,hg⟩:=DataW.trod_struct hu hf
 match xs,hlen with
 | [y0,y1,y2,y3,y4],_=>
  have g0:=hg 0 _ rfl;have g1:=hg 1 _ rfl;have g2:=hg 2 _ rfl;have g3:=hg 3 _ rfl;have g4:=hg 4 _ rfl;simp [ci] at g0 g1 g2 g3 g4;obtain ⟨x0,e0,-,w0⟩:=DataW.trod_int Tryz.underlying3 g0;obtain ⟨x1,e1,-,w1⟩:=DataW.trod_int Tryz.underlying3 g1;obtain ⟨x2,e2,-,w2⟩:=DataW.trod_int Tryz.underlying3 g2;obtain ⟨x3,e3,-,w3⟩:=DataW.trod_int Tryz.underlying3 g3;obtain ⟨x4,e4,-,w4⟩:=DataW.trod_int Tryz.underlying3 g4;simp at e0 e1 e2 e3 e4;subst e0 e1 e2 e3 e4;exact ⟨⟨x0,x1,x2,x3,x4⟩,rfl,w0,w1,w2,w3,w4⟩
theorem open_od {H:Type} {enc:TypeId × Value→H} {W:World} {r:Reach} {b0 b1:Nat} {spare:Nat→Bool} {held:Bool} {v:Value} {d:DataW H} {ps:List MemPlace}
  (hval:Value.okWide Tryz.prog W r b0 75 v) (h:DataW.Trod enc Tryz.prog W b1 spare held 75 v d ps) :
  ∃ x:Od,v=x.v∧wf5 x:=by
 have hu:=Tryz.underlying75;have hc:Tryz.prog.cellsOf 75=5:=by kernel_rfl
 obtain ⟨cs,rfl,hsz⟩:=okWide_struct hu hval;rw [hc] at hsz;obtain ⟨fuel,hf⟩:=h;obtain ⟨x,hx,hw⟩:=od_cells (cs:=cs.toList) (by simpa using hsz) (by simpa [Value.cells] using hf);refine ⟨x,?_,hw⟩;show Value.agg cs=Value.agg x.cs;rw [show cs=x.cs from Array.toList_inj.1 hx]
theorem rowO_of {w:World} {a:Addr} {m len:Nat} (hl:len≤m)
  (h:∀ i,i<m→∃ y:Od,(∀ j,j<5→w.cell? (a.add (i*5+j))=y.cs.toList[j]?)∧wf5 y) :
  ∃ zs:List Od,RowO w (some a) len zs:=by
 haveI:Inhabited Od:=⟨od0⟩
 obtain ⟨f,hf⟩:=Deep.choose_lt h;have e:∀ i,i<len→((List.range len).map f).getD i od0=f i:=fun i hi=>by simp [List.getD,hi]
 refine ⟨(List.range len).map f,⟨by simp,?_,fun i hi=>by rw [e i hi];exact (hf i (by omega)).2⟩⟩;by_cases h0:len=0
 ·exact .inl h0
 ·obtain ⟨b,off,spot⟩:=a;have e0:w.cell? ((⟨b,off,spot⟩:Addr).add (0*5+0))=some (zI (f 0).k):=(hf 0 (by omega)).1 0 (by omega);have hs:spot=none:=by simpa [Addr.add] using World.cell?_spot e0
  subst hs;refine .inr ⟨b,off,rfl,?_,fun i j hi hj=>?_⟩
  ·rw [Addr.add_lit] at e0;exact World.block_lt_of_cell? w _ e0
  ·have h1:=(hf i (by omega)).1 j hj;rw [Addr.add_lit,← Nat.add_assoc] at h1;rw [e i hi,h1];simp
theorem open_orders {H:Type} {enc:TypeId × Value→H} {W:World} {r:Reach} {b0 b1:Nat} {held:Bool} {v:Value} {d:DataW H} {ps:List MemPlace}
  (hval:Value.okWide Tryz.prog W r b0 36 v) (h:DataW.Trod enc Tryz.prog W b1 (fun _=>true) held 36 v d ps) (hs:∀ n∈d.weights Tryz.prog 36,n≤reachBytes) :
  ∃ (p:Option Addr) (len cap:Nat) (l:List Od),v = .slice p len cap∧RowO W p len l:=by
 have hu:=Tryz.underlying36;have hc:Tryz.prog.cellsOf 75=5:=by kernel_rfl
 obtain ⟨p,len,cap,rfl⟩:=okWide_slice hu hval;obtain ⟨fuel,hf⟩:=h;rcases Deep.open_slice hu hf with ⟨hcs,_⟩ | ⟨a,l,c,m,n,D,Pl,hcs,_,hl,hm,hmm,hy,hall⟩
 ·simp [Value.cells] at hcs;obtain ⟨rfl,rfl,rfl⟩:=hcs;exact ⟨none,0,0,[],rfl,⟨rfl,.inl rfl,fun i hi=>absurd hi (Nat.not_lt_zero _)⟩⟩
 ·simp [Value.cells] at hcs;obtain ⟨rfl,rfl,rfl⟩:=hcs;simp only [if_true] at hmm;subst hmm;rw [hc] at hall
  obtain ⟨zs,r1⟩:=rowO_of (w:=W) (a:=a) (m:=m) hl (fun i hi=>by
   obtain ⟨cs',h1,h2⟩:=hall i hi;obtain ⟨_,hlen,hcell⟩:=World.cells?_some h1;obtain ⟨y,rfl,hw⟩:=od_cells hlen h2
   exact ⟨y,fun j hj=>by have:=hcell j hj;rwa [Deep.add_add] at this,hw⟩)
  exact ⟨some a,len,m,zs,rfl,r1⟩
end vnd
end Go.Proofs.YtnpblpbohcegoaaGreatDoor
