import Derived.Test.YtnpblpbohcegoaaGreatDoorVVRts21
import Derived.Test.YtnpblpbohcegoaaGreatDoorVVRts27
import Derived.Test.YtnpblpbohcegoaaGreatDoorVVRts28
set_option linter.unusedVariables false
set_option linter.unusedSimpArgs false
set_option maxHeartbeats 4000000
set_option maxRecDepth 100000
namespace Go.Proofs.YtnpblpbohcegoaaGreatDoor
namespace vnd
open book (Ev ev0 Cm cm0 So so0 Sees)
open acc (Ac Tm Bi)
open cell (Wr RowU)
open Go.RowKit
def KvRpr (w0:World):Prop:=∀ (W:World) (t:Tm) (pt:Option Addr) (lt ct:Nat) (a:Option Addr) (n cap:Nat) (c:List Int) (me id:Int),Below w0.heap.size w0 W→acc.TCame W t pt lt ct→Dk W a n cap c→(Lit.int .i64 me).wf=true→(Lit.int .i64 id).wf=true→Calls Tryz.prog 10 #[t.v pt lt ct,.slice a n cap,zI me,zI id] W fun e w'=>RprPost W (RepIsP t c me id) e w'
open disk (RepIs RepPost Lr Recs Sli sl0)
open book (EMay evL evOf DecIs BookIs BookPost ECame RowE FirstAt NoneAt Tells DecPost)
open acc (SellIs GrantIs RekeyIs OweIs)
open token (Tok fmtL)
def KFm:Prop:=∀ (k:Tok) (W:World),k.ok→Calls Tryz.prog 31 #[k.v] W fun e w'=>e = .returned (.tuple #[.string (token.fmtB (97*k.num)),zI 0])∧Below W.heap.size W w'
theorem cm_mem {bk:List Cm} {j:Nat} (h:j<bk.length):bk.getD j cm0∈bk:=by
 have e:bk.getD j cm0=bk[j]:=by simp [List.getD,List.getElem?_eq_getElem h]
 rw [e];exact List.getElem_mem _
def SoldOk (s:So):Prop:=(1≤s.id∧s.id≤1048575)∧(0≤s.tg∧s.tg≤65535)∧((s.cl=0∧1≤s.am∧s.am≤2097151)∨(s.cl=2∧1≤s.am∧s.am≤15))
theorem sold_tok {s:So} (h:SoldOk s):(Tok.mk s.cl.toNat s.id.toNat s.am.toNat s.tg.toNat).ok∧(Tok.mk s.cl.toNat s.id.toNat s.am.toNat s.tg.toNat).v = .agg #[zI s.cl,zI s.id,zI s.am,zI s.tg]:=by
 obtain ⟨h1,h2,h3⟩:=h;refine ⟨⟨?_,?_,?_,?_,?_,?_,?_,?_⟩,?_⟩
 ·show s.cl.toNat≤3;omega
 ·show 1≤s.id.toNat;omega
 ·show s.id.toNat≤1048575;omega
 ·show s.tg.toNat≤65535;omega
 ·show s.am.toNat≤2097151;omega
 ·intro h;have h:s.cl.toNat=0:=h;show 1≤s.am.toNat;omega
 ·intro h;have h:s.cl.toNat=2:=h;show 1≤s.am.toNat∧s.am.toNat≤15;omega
 ·intro h;have h:s.cl.toNat=1∨s.cl.toNat=3:=h;omega
 ·unfold token.Tok.v;show Value.agg #[zI (s.cl.toNat:Int),zI (s.id.toNat:Int),zI (s.am.toNat:Int),zI (s.tg.toNat:Int)]=_;rw [Int.toNat_of_nonneg (by omega),Int.toNat_of_nonneg (by omega),Int.toNat_of_nonneg (by omega),Int.toNat_of_nonneg (by omega)]
def AllOk (bk:List Cm):Prop:=∀ x∈bk,∀ s∈x.so,SoldOk s
theorem rekey_rv {a b:Ac} {l:Bi} (h:RekeyIs a b l 0):0≤a.rv∧a.rv<15:=by
 rcases h with ⟨_,_,_,h⟩ | ⟨_,_,_,_,h⟩ | ⟨_,_,_,_,_,h⟩ | ⟨ha,hr,_,_,_,_⟩
 ·cases h
 ·cases h
 ·cases h
 ·exact ⟨ha.2.2.1.1,hr⟩
theorem hap_sold {t:Tm} {c c':Cm} {v:Ev} (h:book.HapIs t c v c' 0) (hv:EMay v) (h1:v.kd≠1) (hs:∀ s∈c.so,SoldOk s):∀ s∈c'.so,SoldOk s:=by
 rcases h with ⟨p,b,q,r⟩ | ⟨p,b,l,e,q,⟨x,r⟩ | ⟨_,_,r⟩ | ⟨x,y,_,z⟩⟩
 ·rw [r rfl];exact hs
 ·exact absurd r.symm x
 ·cases r
 ·rw [z];intro s hsm;rcases List.mem_append.1 hsm with h | h
  ·exact hs s h
  ·rw [List.mem_singleton.1 h];unfold book.soldOf;unfold EMay at hv;by_cases k4:v.kd=4
   ·rw [if_pos k4];subst x;rcases q with ⟨a,_⟩ | ⟨a,_⟩ | ⟨_,q⟩
    ·omega
    ·omega
    ·have hr:=rekey_rv q;refine ⟨?_,?_,.inr ⟨rfl,?_⟩⟩
     ·show 1≤v.id∧v.id≤1048575;omega
     ·show 0≤v.tg∧v.tg≤65535;omega
     ·show 1≤c.a.rv+1∧c.a.rv+1≤15;omega
   ·rw [if_neg k4];refine ⟨?_,?_,.inl ⟨rfl,?_⟩⟩
    ·show 1≤v.id∧v.id≤1048575;omega
    ·show 0≤v.tg∧v.tg≤65535;omega
    ·show 1≤v.un∧v.un≤2097151;omega
theorem step_sold {t:Tm} {bk bk':List Cm} {v:Ev} (h:book.StepIs t bk v bk' 0) (hs:AllOk bk):AllOk bk':=by
 rcases h with ⟨_,r⟩ | ⟨_,_,_,r⟩ | ⟨_,_,_,_,s⟩ | ⟨_,_,_,r⟩ | ⟨p,q,k,c',hk,hh,s⟩
 ·cases r
 ·cases r
 ·rw [s];intro x hx;rcases List.mem_append.1 hx with h | h
  ·exact hs x h
  ·rw [List.mem_singleton.1 h];intro y hy;cases hy
 ·cases r
 ·rw [s rfl];intro x hx;rcases List.mem_or_eq_of_mem_set hx with h | h
  ·exact hs x h
  ·rw [h];exact hap_sold hh p q (hs _ (cm_mem hk.1))
theorem states_sold {t:Tm} {l:List Ev} {k:Nat} {st:Nat→List Cm} (h0:st 0=[]) (h:∀ i,i<k→book.StepIs t (st i) (l.getD i ev0) (st (i+1)) 0):∀ i,i≤k→AllOk (st i)
 | 0,_=>by rw [h0];intro x hx;cases hx
 | i+1,hk=>step_sold (h i (by omega)) (states_sold h0 h i (by omega))
theorem load_sold {t:Tm} {c:List Int} {bk:List Cm} {f:Int} (h:LoadIs t c bk f):∀ x∈bk,∀ j,j<x.so.length→SoldOk (x.so.getD j so0):=by
 have hall:AllOk bk:=by
  obtain ⟨l,e,_,⟨_,rfl,_⟩ | ⟨_,a,q⟩⟩:=h
  ·intro x hx;cases hx
  ·rcases q with ⟨_,_,rfl,_⟩ | ⟨_,_,rfl,_⟩ | ⟨_,_,k,st,s0,s1,⟨_,rfl,_⟩ | ⟨_,_,_,rfl,_⟩⟩
   ·intro x hx;cases hx
   ·intro x hx;cases hx
   ·exact states_sold s0 s1 k (Nat.le_refl _)
   ·intro x hx;cases hx
 intro x hx j hj;have e:x.so.getD j so0=x.so[j]:=by simp [List.getD,List.getElem?_eq_getElem hj]
 rw [e];exact hall x hx _ (List.getElem_mem _)
theorem rkept (a:Option Addr) (n cap:Nat) (c:List Int) (w:World) (h:RowU w a n c) (hw:∀ x∈c,0≤x∧x<4294967296):Calls Tryz.prog 55 #[.slice a n cap] w fun e w'=>KeptPost w c e w':=by
 have HRE:Hid (Calls Tryz.prog 95 #[.slice a n cap] w fun e w'=>RepPost w c e w'):=disk.replayed a n cap c w h hw;have HW:Hid (∀ x∈c,0≤x∧x<4294967296):=hw;clear h hw;go_enter Tryz.func55,Tryz.ntmps55;go_wp2_with fail;refine HRE.o.mono ?_;rintro e w1 ⟨V,sl,o,x,f,rfl,hlr,hrc,hri,hb1⟩;obtain ⟨pa,pc,rfl⟩:=hlr.len;have HB1:Hid (Below w.heap.size w w1):=hb1;have HRI:Hid (RepIs c o x f):=hri;have HLR:Hid (Lr 25 w1 w.heap.size (.slice pa sl.length pc) sl):=hlr;have HRC:Hid (Recs w1 (Value.slice pa sl.length pc).ownBlock sl o):=hrc;have HOL:Hid (sl.length=o.length):=hrc.1;have hol:sl.length≤2048:=by rw [hrc.1];exact rep_len hri
 clear hlr hrc hri hb1 HRE;by_cases h0:f=0
 ·subst h0;generalize hN:sl.length=N at *;have HN:Hid (sl.length=N):=hN;clear hN;go_wp2_with fail;go_loopw [7,8] (fun u z wr=>∃ (k:Nat) (U:Value),k≤N∧z=zI (k:Int)∧U=u∧book.Le wr w1.heap.size U ((o.take k).map evOf)∧(∀ j,j<k→DecOk (o.getD j []))∧Below w1.heap.size w1 wr) (fun _ z _=>N - (intOf z).toNat)
  case atStart=>exact ⟨0,_,Nat.zero_le _,rfl,rfl,book.Le.zero _ _,(fun j hj=>absurd hj (Nat.not_lt_zero _)),Below.refl _ _⟩
  case round=>
   obtain ⟨k,U,hk,rfl,hU,hle,hok,hb⟩:=hrel;subst hU;have HLE:Hid (book.Le wr w1.heap.size U ((o.take k).map evOf)):=hle;have HOK:Hid (∀ j,j<k→DecOk (o.getD j [])):=hok;have HBR:Hid (Below w1.heap.size w1 wr):=hb;by_cases hlt:k<N
   ·have hdl:decide ((k:Int)<(N:Int))=true:=by simp;omega
    have hks:k<sl.length:=by rw [HN.o];exact hlt
    have hko:k<o.length:=by rw [← HOL.o];exact hlt
    obtain ⟨g,gc,hgv,_,hgl,_,hgc⟩:=HLR.o.row (by rw [HN.o];omega);have hpa:pa=some ⟨g,0,none⟩:=by injection hgv
    subst hpa;obtain ⟨⟨rb,ro,hra,hrl,_⟩,hrow⟩:=HRC.o.2 k hks;have ck:wr.cell? ⟨g,k,none⟩=some (sl.getD k sl0).v:=(hb.cell (p:=⟨g,k,none⟩) hgl).trans (hgc k hks);unfold disk.Sli.v at ck;have HDE:Hid (Calls Tryz.prog 96 #[.slice (sl.getD k sl0).a (sl.getD k sl0).n (sl.getD k sl0).c] wr fun e w'=>DecPost wr (o.getD k []) e w'):=book.rdecoded _ _ _ _ wr (hrow.below hb) (fun y hy=>HW.o y (rep_in HRI.o _ (getD_inR hko) y hy));clear hle hok hb hgc hrow hra hrl hgv;generalize (sl.getD k sl0).a=sa at *;generalize (sl.getD k sl0).n=sn at *;generalize (sl.getD k sl0).c=sc at *;have HTK:Hid ((o.take k).map evOf++[evOf (o.getD k [])]=(o.take (k+1)).map evOf):=take_mapE o k hko;have hzl:((o.take k).map evOf).length≤1000000:=by rw [List.length_map,List.length_take];omega
    generalize (o.take k).map evOf=Z at *;go_wp2_with fail;refine HDE.o.mono ?_;rintro e w2 ⟨v,f2,rfl,hd,hb2⟩;unfold book.Ev.v;have HX:Hid (Blk (w2.alloc (.cells #[zI v.kd,zI v.me,zI v.mo,zI v.id,zI v.te,zI v.de,zI v.fe,zI v.pr,zI v.ch,zI v.un,zI v.tg,zI v.ow,zI v.bp] 72)) w2.heap.size #[zI v.kd,zI v.me,zI v.mo,zI v.id,zI v.te,zI v.de,zI v.fe,zI v.pr,zI v.ch,zI v.un,zI v.tg,zI v.ow,zI v.bp] 72):=Blk.new w2 _ _;have HBX:Hid (Below w1.heap.size w1 (w2.alloc (.cells #[zI v.kd,zI v.me,zI v.mo,zI v.id,zI v.te,zI v.de,zI v.fe,zI v.pr,zI v.ch,zI v.un,zI v.tg,zI v.ow,zI v.bp] 72))):=(HBR.o.trans (hb2.mono HBR.o.size)).alloc (Nat.le_trans HBR.o.size hb2.size) _;have HLX:Hid (book.Le (w2.alloc (.cells #[zI v.kd,zI v.me,zI v.mo,zI v.id,zI v.te,zI v.de,zI v.fe,zI v.pr,zI v.ch,zI v.un,zI v.tg,zI v.ow,zI v.bp] 72)) w1.heap.size U Z):=(HLE.o.next hb2).alloc _;have HD:Hid (DecIs (o.getD k []) v f2):=hd;have hsx:w2.heap.size<(w2.alloc (.cells #[zI v.kd,zI v.me,zI v.mo,zI v.id,zI v.te,zI v.de,zI v.fe,zI v.pr,zI v.ch,zI v.un,zI v.tg,zI v.ow,zI v.bp] 72)).heap.size:=(Blk.new w2 #[zI v.kd,zI v.me,zI v.mo,zI v.id,zI v.te,zI v.de,zI v.fe,zI v.pr,zI v.ch,zI v.un,zI v.tg,zI v.ow,zI v.bp] 72).lt;clear hd hb2 HDE HLE HBR ck;go_upto_region 9 with fail
    generalize (w2.alloc (.cells #[zI v.kd,zI v.me,zI v.mo,zI v.id,zI v.te,zI v.de,zI v.fe,zI v.pr,zI v.ch,zI v.un,zI v.tg,zI v.ow,zI v.bp] 72))=W3 at *;generalize w2.heap.size=gx at *;by_cases h2:f2=0
    ·subst h2;obtain ⟨hdk,hve⟩:=dec_ok HD.o;have HV:Hid (evOf (o.getD k [])=v):=hve.symm
     have HOK2:Hid (∀ j,j<k+1→DecOk (o.getD j [])):=fun j hj=>by
      by_cases e:j=k
      ·subst e;exact hdk
      ·exact HOK.o j (by omega)
     have HBK:Hid (Blk (W3.alloc (.cells #[zI v.kd,zI v.me,zI v.mo,zI v.id,zI v.te,zI v.de,zI v.fe,zI v.pr,zI v.ch,zI v.un,zI v.tg,zI v.ow,zI v.bp] 72)) W3.heap.size v.cl.toArray 72):=Blk.new W3 _ _;have HLA:Hid (book.Le (W3.alloc (.cells #[zI v.kd,zI v.me,zI v.mo,zI v.id,zI v.te,zI v.de,zI v.fe,zI v.pr,zI v.ch,zI v.un,zI v.tg,zI v.ow,zI v.bp] 72)) w1.heap.size U Z):=HLX.o.alloc _;have HBA:Hid (Below w1.heap.size w1 (W3.alloc (.cells #[zI v.kd,zI v.me,zI v.mo,zI v.id,zI v.te,zI v.de,zI v.fe,zI v.pr,zI v.ch,zI v.un,zI v.tg,zI v.ow,zI v.bp] 72))):=HBX.o.alloc HBX.o.size _;clear hdk hve HD HOK
     go_wp2_with (first
      | (refine zqw rfl rfl rfl HX zqu72 ?_)
      | (at_builtin;refine book.wp_ev rfl _ _ rfl w1.heap.size W3.heap.size U Z v rfl rfl HLA.o HBK.o hzl HBA.o.size ?_)
      | fail)
     intro v3 w3 h3 hg3;have HB3:Hid (Below w1.heap.size w1 w3):=tar.own_bel HLA.o hg3 HBA.o (Nat.le_refl _) HBA.o.size;have H3:Hid (book.Le w3 w1.heap.size v3 (Z++[v])):=h3;clear h3 hg3 HLA HBA HBK HX HLX HBX;go_wp2_with fail;go_roundw
     case rel=>exact ⟨k+1,v3,by omega,by go_num,by first | rfl | trivial,by rw [← HTK.o,HV.o];exact H3.o,HOK2.o,HB3.o⟩
     case measure=>simp [intOf];omega
    ·have d2:(f2 != 0)=true:=by simpa using h2
     have HK:Hid (KeptIs c [] f2):=⟨o,x,0,HRI.o,.inr (.inr ⟨rfl,h2,rfl,k,hko,HOK.o,by have:=dec_no HD.o h2;rw [← this];exact HD.o⟩)⟩
     have HBF:Hid (Below w.heap.size w W3):=HB1.o.trans (HBX.o.mono HB1.o.size);clear h2 HD HOK;go_wp2_with fail;go_ret2;exact ⟨none,0,0,[],f2,rfl,HK.o,ecame_nil _,Nat.zero_le _,HBF.o⟩
   ·obtain rfl:k=N:=by omega
    have hdl:decide ((k:Int)<(k:Int))=false:=by simp
    have HTA:Hid (o.take k=o):=List.take_of_length_le (by rw [← HOL.o];exact Nat.le_refl _);have HK:Hid (KeptIs c (o.map evOf) 0):=⟨o,x,0,HRI.o,.inr (.inl ⟨rfl,fun j hj=>HOK.o j (by rw [HOL.o];exact hj),rfl,rfl⟩)⟩
    have hwf:∀ v∈o.map evOf,book.wf13 v:=fun v hv=>by
     obtain ⟨z,hz,rfl⟩:=List.mem_map.1 hv;obtain ⟨j,hj,rfl⟩:=List.mem_iff_getElem.1 hz;have e:o.getD j []=o[j]:=by simp [List.getD,List.getElem?_eq_getElem hj]
     have:=HOK.o j (by rw [HOL.o];exact hj);rw [e] at this;exact book.wf_may this.2
    have hl2:=HLE.o;rw [HTA.o] at hl2;obtain ⟨pz,cz,hvz,hcz⟩:=hl2.came (by rw [List.length_map,← HOL.o];omega) hwf;have hlen:(o.map evOf).length=k:=by rw [List.length_map];exact HOL.o.symm
    rw [hlen] at hvz hcz;subst hvz;have HCZ:Hid (ECame wr pz k cz (o.map evOf)):=hcz;have HBF:Hid (Below w.heap.size w wr):=HB1.o.trans (HBR.o.mono HB1.o.size);clear hle hok hb hl2 hcz hwf hlen HLE HOK HTA;go_wp2_with fail;go_ret2;exact ⟨pz,k,cz,_,0,rfl,HK.o,HCZ.o,hol,HBF.o⟩
 ·have d0:(f != 0)=true:=by simpa using h0
  have HK:Hid (KeptIs c [] f):=⟨o,x,f,HRI.o,.inl ⟨h0,rfl,rfl⟩⟩
  clear h0;go_wp2_with fail;go_ret2;exact ⟨none,0,0,[],f,rfl,HK.o,ecame_nil _,Nat.zero_le _,HB1.o⟩
theorem found_first {xs:List book.Cu} {bk:List Cm} {me x:Int} (hl:xs.length=bk.length) (hn:∀ i,i<xs.length→book.Nums (xs.getD i book.cu0) (bk.getD i cm0).a) (h:book.FoundIs xs me x):(x=-1∧NoneAt bk me)∨(∃ k:Nat,x=(k:Int)∧FirstAt bk me k∧k<xs.length):=by
 rcases h with ⟨k,h1,h2,h3,h4⟩ | ⟨h1,h2⟩
 ·refine .inr ⟨k,h4,⟨by rw [← hl];exact h1,by rw [← (hn k h1).1];exact h2,fun j hj=>by rw [← (hn j (by omega)).1];exact h3 j hj⟩,h1⟩
 ·exact .inl ⟨h2,fun j hj=>by rw [← (hn j (by rw [hl];exact hj)).1];exact h1 j (by rw [hl];exact hj)⟩
end vnd
namespace acc
open tar (Du du0 Came RowD Ld PairT)
open Go.RowKit
theorem terms_any (x:Tm) (p:Option Addr) (len cap:Nat) (w:World) (h:TCame w x p len cap):Calls Tryz.prog 11 #[x.v p len cap] w fun e w'=>∃ p' cap',e = .returned (x.v p' len cap')∧deb.Fresh w' w.heap.size p' len cap' x.ts∧Below w.heap.size w w':=by
 have hlen:=h.ts.row.1;have HCW:Hid (TCame w x p len cap):=h;unfold Tm.v;obtain ⟨W0,HWW,H0d,H0r,H0B,hs0⟩:=sh2 w #[.slice p len cap,zI x.ff,zI x.fb,zI x.db,zI x.al] 24 #[zS,zI 0,zI 0,zI 0,zI 0] 24;have H0C:Hid (Came W0 p len cap x.ts):=h.ts.below H0B.o;go_enter Tryz.func11,Tryz.ntmps11;go_upto_region 1 with fail
 rw [HWW.o];clear HWW;have HDB:Hid (Calls Tryz.prog 28 #[.slice p len cap] W0 fun e w'=>tar.GaveD 198 W0 x.ts e w'):=tar.steps_any p len cap x.ts W0 H0C.o;clear h;have qd0:W0.cell? ⟨w.heap.size,0,none⟩=some (.slice p len cap):=H0d.o.cell 0;go_wp2_with fail;refine HDB.o.mono ?_;rintro e w2 ⟨v2,rfl,hl2,hb2⟩;have H1d:=shN H0d hb2;have H1r:=shN H0r hb2;have H1C:Hid (Came w2 p len cap x.ts):=H0C.o.below hb2;have H1B:=shB H0B hb2;have hsw2:W0.heap.size≤w2.heap.size:=hb2.size;clear hb2 H0d H0r H0C H0B;have HNW:=HCW.o.ts;obtain ⟨p2,c2,hv2,hc2⟩:=hl2.came (by rw [hlen];exact HNW.bytes) HNW.wf;subst hv2;have hn2:=deb.ld_new hl2;rw [hlen] at hc2 hn2 ⊢;have H2F:Hid (deb.Fresh w2 W0.heap.size p2 len c2 x.ts):=⟨hc2,hn2⟩
 have HUPF:Hid (0<len→∀ y,p2=some y→y.block<w2.heap.size):=came_lt H2F.o.came;clear hl2 hc2 hn2 HNW HDB qd0
 go_wp2_with (first
  | (refine wp_letS rfl 22 _ _ rfl (w.heap.size) 0 rfl p2 len c2 rfl (by kernel_rfl) #[.slice p len cap,zI x.ff,zI x.fb,zI x.db,zI x.al] 24 H1d.o (by simp) ?_)
  | (refine zqw rfl rfl rfl H1d zqu24 ?_)
  | (refine zqw rfl rfl rfl H1r zqu24 ?_)
  | fail)
 intro W3 hU;have H3d:Hid (Blk W3 (w.heap.size) #[.slice p2 len c2,zI x.ff,zI x.fb,zI x.db,zI x.al] 24):=hU.blk;have H3r:=shK hU H1r (by omega);have H3F:Hid (deb.Fresh W3 W0.heap.size p2 len c2 x.ts):=fresh_updN H2F.o hU (fun hn y hy=>by have f1:=H2F.o.new hn y hy;have f2:=HUPF.o hn y hy;omega);have H3B:=shV hU H1B (by omega);have hsW3:W3.heap.size=w2.heap.size:=hU.size;clear hU H1d H1r H2F H1B
 go_wp2_with (first
  | (refine zql rfl rfl rfl rfl zqu24 (by simp [Value.oneCell']) H3r rfl ?_)
  | (refine zqw rfl rfl rfl H3d zqu24 ?_)
  | (refine zqw rfl rfl rfl H3r zqu24 ?_)
  | fail)
 intro W4 hU;have H4d:=shK hU H3d (by omega);have H4r:Hid (Blk W4 (w.heap.size+1) #[.slice p2 len c2,zI x.ff,zI x.fb,zI x.db,zI x.al] 24):=hU.blk;have H4F:Hid (deb.Fresh W4 W0.heap.size p2 len c2 x.ts):=fresh_updN H3F.o hU (fun hn y hy=>by have f1:=H3F.o.new hn y hy;have f2:=HUPF.o hn y hy;omega);have H4B:=shV hU H3B (by omega);have hsW4:W4.heap.size=W3.heap.size:=hU.size;clear hU H3d H3r H3F H3B;obtain ⟨R0,R1,R2,R3,R4⟩:=shc5 H4r;go_wp2_with fail;exact bodyPost_ret (v:= .agg #[.slice p2 len c2,zI x.ff,zI x.fb,zI x.db,zI x.al]) (by simp [results,Tryz.results11,R0.o,R1.o,R2.o,R3.o,R4.o,go_sem]) rfl ⟨p2,c2,rfl,H4F.o.low (by omega),H4B.o⟩
end acc
namespace disk
open Go.RowKit cell
set_option maxRecDepth 100000
theorem lr_cells {T : TypeId} {w : World} {base : Nat} {v : Value} {l : List Sli} (h : Lr T w base v l) : v.cells = #[v] := by
 obtain ⟨a, cap, rfl⟩ := h.len
 rfl
theorem lr_one {T : TypeId} {w : World} {base : Nat} {v : Value} {l : List Sli} (h : Lr T w base v l) : v.oneCell' = true := by
 obtain ⟨a, cap, rfl⟩ := h.len
 rfl
set_option maxHeartbeats 4000000 in
theorem put_record (w : World) (L : Nat) (V : Value) (sl : List Sli) (zs : List (List Int)) (R : List Int) (b off m : Nat) (W : World) (h : Box w L V sl zs W) (hr : RowU W (some ⟨b, off, none⟩) m R) (h1 : 1 ≤ m) (h2 : m ≤ 64) (hs : sl.length ≤ 1000000) :
  Calls Tryz.prog 63 #[.slice (some ⟨b, off, none⟩) m m, .pointer (some ⟨L, 0, none⟩)] W fun e w' => e = .returned (.tuple #[]) ∧ ∃ V' sl', Box w L V' sl' (zs ++ [R]) w' := by
 have HC : Hid (Calls Tryz.prog 64 #[.slice (some ⟨b, off, none⟩) m m] W.drew fun e w' => GaveU W.drew R e w') := clone_any _ m m R _ hr (by omega)
 have HBU0 : Hid (Box w L V sl zs W.drew) := h.next (Below.refl _ _).drew
 have HB0 : Hid (Box w L V sl zs W.drew) := HBU0.out
 have HRL : Hid (R.length = m) := hr.1
 have HM1 : Hid (0 < m) := h1
 have HM6 : Hid (m ≤ 100000) := Nat.le_trans h2 (by decide)
 have HS6 : Hid (sl.length ≤ 1000000) := hs
 clear hr h h1 h2 hs
 go_enter Tryz.func63, Tryz.ntmps63
 refine wp_region_held_drew (S := fun v => True) (by kernel_rfl) trivial (fun hHeld => ?_)
 generalize W.drew = U0 at *
 refine zqs 1 4 (.slice (some ⟨b, off, none⟩) m m) rfl rfl (by kernel_rfl) (fun _ _ _ h => h) rfl (fun v hv => by clear hv; go_simp) hHeld ?_
 simp only [Act.put, zqa, zqb, zqc]
 refine wpAnyH_ready (rs := [0, 2]) (by kernel_rfl) (by simp) (AllReadyH.cons rfl (fun K hK => ?_) (AllReadyH.cons rfl (fun K hK => ?_) AllReadyH.nil))
 ·rw [if_pos (by rfl)]
  have cU0 : U0.cell? ⟨L, 0, none⟩ = some V := HBU0.out.blk.cell 0
  refine wp_runOp (v := V) (w' := U0) 3 rfl (by clear hK; go_simp) ?_
  refine hK.out _ _ trivial (fun hHeld => ?_)
  clear hK cU0
  simp only [Act.put, zqa, zqb, zqc]
  refine zqo 2 (by kernel_rfl) rfl (fun K hK => ?_)
  rw [if_pos (by rfl)]
  refine wp_callOp 5 rfl (by clear hK; go_simp) (HC.out) ?_
  rintro e U1 ⟨v5, rfl, hws, hb⟩
  obtain ⟨a5, cap5, rfl, hrow, hnl, hcp⟩ := Ws.row hws
  rw [HRL.out] at hrow hcp ⊢
  obtain ⟨g, o5, rfl, hg5, hc5⟩ := hrow.at HM1.out
  have HCP : Hid (m ≤ cap5) := hcp
  have HG : Hid (U0.heap.size ≤ g) := (World.ownsRow.lt hws g rfl).1
  have HRU1 : Hid (RowU U1 (some ⟨g, o5, none⟩) m R ∧ g < U1.heap.size) := ⟨hrow, hg5⟩
  have HBU1 : Hid (Box w L V sl zs U1) := HBU0.out.next hb
  refine ⟨_, rfl, hK.out _ _ trivial (fun hHeld => ?_)⟩
  clear hK HC hws hb hnl hcp hc5 hg5 hrow HBU0
  simp only [Act.put, zqa, zqb, zqc]
  have HNE : Hid (some g ≠ V.ownBlock) := fun e => by have := (World.ownsRow.lt HB0.out.row g e.symm).2; have := HG.out; omega
  have HGL : Hid (L + 1 ≤ g) := by have := HB0.out.blk.lt; have := HG.out; show _ ≤ _; omega
  refine zqo 3 (by kernel_rfl) rfl (fun K hK => ?_)
  rw [if_pos (by rfl)]
  have hb : Below U1.heap.size U1 (U1.alloc (.cells #[.slice (some ⟨g, o5, none⟩) m cap5] 25)) := (Below.refl _ _).alloc (Nat.le_refl _) _
  have HBU2 : Hid (Box w L V sl zs (U1.alloc (.cells #[.slice (some ⟨g, o5, none⟩) m cap5] 25))) := HBU1.out.next hb
  have HRU2 : Hid (RowU (U1.alloc (.cells #[.slice (some ⟨g, o5, none⟩) m cap5] 25)) (some ⟨g, o5, none⟩) m R ∧ g < (U1.alloc (.cells #[.slice (some ⟨g, o5, none⟩) m cap5] 25)).heap.size) := ⟨HRU1.out.1.below hb, Nat.lt_of_lt_of_le HRU1.out.2 hb.size⟩
  have HX : Hid ((U1.alloc (.cells #[.slice (some ⟨g, o5, none⟩) m cap5] 25)).cell? ⟨U1.heap.size, 0, none⟩ = some (.slice (some ⟨g, o5, none⟩) m cap5)) := (Blk.new _ _ _).cell 0
  clear hb
  refine wp_runOp (v := .slice (some ⟨U1.heap.size, 0, none⟩) 1 1) (w' := (U1.alloc (.cells #[.slice (some ⟨g, o5, none⟩) m cap5] 25))) 6 rfl (by clear hK; go_simp) ?_
  refine hK.out _ _ trivial (fun hHeld => ?_)
  clear hK HBU1 HRU1
  simp only [Act.put, zqa, zqb, zqc]
  generalize U1.heap.size = G at *
  generalize (U1.alloc (.cells #[.slice (some ⟨g, o5, none⟩) m cap5] 25)) = U2 at *
  refine zqo 4 (by kernel_rfl) rfl (fun K hK => ?_)
  refine step_sli sliT rfl _ _ rfl (L + 1) G V sl ⟨some ⟨g, o5, none⟩, m, cap5⟩ rfl rfl HBU2.out.row HX.out HS6.out (HBU2.out.blk.lt) ?_
  intro v7 W3 h3 hg3 ho3
  refine hK.out _ _ trivial (fun hHeld => ?_)
  clear hK
  simp only [Act.put, zqa, zqb, zqc]
  refine zqo 5 (by kernel_rfl) rfl (fun K hK => ?_)
  rw [if_pos (by rfl)]
  refine wp_letOne 104 _ _ rfl L rfl v7 rfl (lr_cells h3) (by kernel_rfl) (lr_one h3) V 104 (HBU2.out.kept hg3) rfl ?_
  intro W4 hU
  have HF : Hid (Box w L v7 (sl ++ [⟨some ⟨g, o5, none⟩, m, cap5⟩]) (zs ++ [R]) W4) := box_step HBU2.out rfl HRU2.out.2 HNE.out HGL.out HRU2.out.1 ⟨HM6.out, HCP.out, fun h => by cases h⟩ h3 hg3 ho3 hU
  refine hK.out _ _ trivial (fun hHeld => ?_)
  clear hK hU h3 hg3 ho3
  refine wpAnyH_done (by kernel_rfl) ?_ _
  clear hHeld
  go_wp2_with fail
  go_end0
  exact ⟨rfl, _, _, HF.out⟩
 ·rw [if_pos (by rfl)]
  refine wp_callOp 5 rfl (by clear hK; go_simp) (HC.out) ?_
  rintro e U1 ⟨v5, rfl, hws, hb⟩
  obtain ⟨a5, cap5, rfl, hrow, hnl, hcp⟩ := Ws.row hws
  rw [HRL.out] at hrow hcp ⊢
  obtain ⟨g, o5, rfl, hg5, hc5⟩ := hrow.at HM1.out
  have HCP : Hid (m ≤ cap5) := hcp
  have HG : Hid (U0.heap.size ≤ g) := (World.ownsRow.lt hws g rfl).1
  have HRU1 : Hid (RowU U1 (some ⟨g, o5, none⟩) m R ∧ g < U1.heap.size) := ⟨hrow, hg5⟩
  have HBU1 : Hid (Box w L V sl zs U1) := HBU0.out.next hb
  refine ⟨_, rfl, hK.out _ _ trivial (fun hHeld => ?_)⟩
  clear hK HC hws hb hnl hcp hc5 hg5 hrow HBU0
  simp only [Act.put, zqa, zqb, zqc]
  have HNE : Hid (some g ≠ V.ownBlock) := fun e => by have := (World.ownsRow.lt HB0.out.row g e.symm).2; have := HG.out; omega
  have HGL : Hid (L + 1 ≤ g) := by have := HB0.out.blk.lt; have := HG.out; show _ ≤ _; omega
  refine wpAnyH_ready (rs := [0, 3]) (by kernel_rfl) (by simp) (AllReadyH.cons rfl (fun K hK => ?_) (AllReadyH.cons rfl (fun K hK => ?_) AllReadyH.nil))
  ·rw [if_pos (by rfl)]
   have cU1 : U1.cell? ⟨L, 0, none⟩ = some V := HBU1.out.blk.cell 0
   refine wp_runOp (v := V) (w' := U1) 3 rfl (by clear hK; go_simp) ?_
   refine hK.out _ _ trivial (fun hHeld => ?_)
   clear hK cU1
   simp only [Act.put, zqa, zqb, zqc]
   refine zqo 3 (by kernel_rfl) rfl (fun K hK => ?_)
   rw [if_pos (by rfl)]
   have hb : Below U1.heap.size U1 (U1.alloc (.cells #[.slice (some ⟨g, o5, none⟩) m cap5] 25)) := (Below.refl _ _).alloc (Nat.le_refl _) _
   have HBU2 : Hid (Box w L V sl zs (U1.alloc (.cells #[.slice (some ⟨g, o5, none⟩) m cap5] 25))) := HBU1.out.next hb
   have HRU2 : Hid (RowU (U1.alloc (.cells #[.slice (some ⟨g, o5, none⟩) m cap5] 25)) (some ⟨g, o5, none⟩) m R ∧ g < (U1.alloc (.cells #[.slice (some ⟨g, o5, none⟩) m cap5] 25)).heap.size) := ⟨HRU1.out.1.below hb, Nat.lt_of_lt_of_le HRU1.out.2 hb.size⟩
   have HX : Hid ((U1.alloc (.cells #[.slice (some ⟨g, o5, none⟩) m cap5] 25)).cell? ⟨U1.heap.size, 0, none⟩ = some (.slice (some ⟨g, o5, none⟩) m cap5)) := (Blk.new _ _ _).cell 0
   clear hb
   refine wp_runOp (v := .slice (some ⟨U1.heap.size, 0, none⟩) 1 1) (w' := (U1.alloc (.cells #[.slice (some ⟨g, o5, none⟩) m cap5] 25))) 6 rfl (by clear hK; go_simp) ?_
   refine hK.out _ _ trivial (fun hHeld => ?_)
   clear hK HBU1 HRU1
   simp only [Act.put, zqa, zqb, zqc]
   generalize U1.heap.size = G at *
   generalize (U1.alloc (.cells #[.slice (some ⟨g, o5, none⟩) m cap5] 25)) = U2 at *
   refine zqo 4 (by kernel_rfl) rfl (fun K hK => ?_)
   refine step_sli sliT rfl _ _ rfl (L + 1) G V sl ⟨some ⟨g, o5, none⟩, m, cap5⟩ rfl rfl HBU2.out.row HX.out HS6.out (HBU2.out.blk.lt) ?_
   intro v7 W3 h3 hg3 ho3
   refine hK.out _ _ trivial (fun hHeld => ?_)
   clear hK
   simp only [Act.put, zqa, zqb, zqc]
   refine zqo 5 (by kernel_rfl) rfl (fun K hK => ?_)
   rw [if_pos (by rfl)]
   refine wp_letOne 104 _ _ rfl L rfl v7 rfl (lr_cells h3) (by kernel_rfl) (lr_one h3) V 104 (HBU2.out.kept hg3) rfl ?_
   intro W4 hU
   have HF : Hid (Box w L v7 (sl ++ [⟨some ⟨g, o5, none⟩, m, cap5⟩]) (zs ++ [R]) W4) := box_step HBU2.out rfl HRU2.out.2 HNE.out HGL.out HRU2.out.1 ⟨HM6.out, HCP.out, fun h => by cases h⟩ h3 hg3 ho3 hU
   refine hK.out _ _ trivial (fun hHeld => ?_)
   clear hK hU h3 hg3 ho3
   refine wpAnyH_done (by kernel_rfl) ?_ _
   clear hHeld
   go_wp2_with fail
   go_end0
   exact ⟨rfl, _, _, HF.out⟩
  ·rw [if_pos (by rfl)]
   have hb : Below U1.heap.size U1 (U1.alloc (.cells #[.slice (some ⟨g, o5, none⟩) m cap5] 25)) := (Below.refl _ _).alloc (Nat.le_refl _) _
   have HBU2 : Hid (Box w L V sl zs (U1.alloc (.cells #[.slice (some ⟨g, o5, none⟩) m cap5] 25))) := HBU1.out.next hb
   have HRU2 : Hid (RowU (U1.alloc (.cells #[.slice (some ⟨g, o5, none⟩) m cap5] 25)) (some ⟨g, o5, none⟩) m R ∧ g < (U1.alloc (.cells #[.slice (some ⟨g, o5, none⟩) m cap5] 25)).heap.size) := ⟨HRU1.out.1.below hb, Nat.lt_of_lt_of_le HRU1.out.2 hb.size⟩
   have HX : Hid ((U1.alloc (.cells #[.slice (some ⟨g, o5, none⟩) m cap5] 25)).cell? ⟨U1.heap.size, 0, none⟩ = some (.slice (some ⟨g, o5, none⟩) m cap5)) := (Blk.new _ _ _).cell 0
   clear hb
   refine wp_runOp (v := .slice (some ⟨U1.heap.size, 0, none⟩) 1 1) (w' := (U1.alloc (.cells #[.slice (some ⟨g, o5, none⟩) m cap5] 25))) 6 rfl (by clear hK; go_simp) ?_
   refine hK.out _ _ trivial (fun hHeld => ?_)
   clear hK HBU1 HRU1
   simp only [Act.put, zqa, zqb, zqc]
   generalize U1.heap.size = G at *
   generalize (U1.alloc (.cells #[.slice (some ⟨g, o5, none⟩) m cap5] 25)) = U2 at *
   refine zqo 0 (by kernel_rfl) rfl (fun K hK => ?_)
   rw [if_pos (by rfl)]
   have cU2 : U2.cell? ⟨L, 0, none⟩ = some V := HBU2.out.blk.cell 0
   refine wp_runOp (v := V) (w' := U2) 3 rfl (by clear hK; go_simp) ?_
   refine hK.out _ _ trivial (fun hHeld => ?_)
   clear hK cU2
   simp only [Act.put, zqa, zqb, zqc]
   refine zqo 4 (by kernel_rfl) rfl (fun K hK => ?_)
   refine step_sli sliT rfl _ _ rfl (L + 1) G V sl ⟨some ⟨g, o5, none⟩, m, cap5⟩ rfl rfl HBU2.out.row HX.out HS6.out (HBU2.out.blk.lt) ?_
   intro v7 W3 h3 hg3 ho3
   refine hK.out _ _ trivial (fun hHeld => ?_)
   clear hK
   simp only [Act.put, zqa, zqb, zqc]
   refine zqo 5 (by kernel_rfl) rfl (fun K hK => ?_)
   rw [if_pos (by rfl)]
   refine wp_letOne 104 _ _ rfl L rfl v7 rfl (lr_cells h3) (by kernel_rfl) (lr_one h3) V 104 (HBU2.out.kept hg3) rfl ?_
   intro W4 hU
   have HF : Hid (Box w L v7 (sl ++ [⟨some ⟨g, o5, none⟩, m, cap5⟩]) (zs ++ [R]) W4) := box_step HBU2.out rfl HRU2.out.2 HNE.out HGL.out HRU2.out.1 ⟨HM6.out, HCP.out, fun h => by cases h⟩ h3 hg3 ho3 hU
   refine hK.out _ _ trivial (fun hHeld => ?_)
   clear hK hU h3 hg3 ho3
   refine wpAnyH_done (by kernel_rfl) ?_ _
   clear hHeld
   go_wp2_with fail
   go_end0
   exact ⟨rfl, _, _, HF.out⟩
def EPost (J:Nat→World→Prop) (c:List Int) (e:Ending) (w':World):Prop:=
 ∃ x f k,e = .returned (.tuple #[zI x,zI f])∧J k w'∧((¬ May c∧x=0∧f=1)∨(May c∧lenAt c (repD c).2<0∧x=0∧f=3)∨(May c∧lenAt c (repD c).2=0∧repD c=itD c k∧x=((repD c).2:Int)∧f=0))
theorem len_zero {c:List Int} {p:Nat} (h:c.getD p 0=0):lenAt c p=0:=by unfold lenAt;rw [if_pos (.inr h)]
theorem len_end {c:List Int} {p:Nat} (h:p=c.length):lenAt c p=0:=by unfold lenAt;rw [if_pos (.inl h)]
theorem len_bad {c:List Int} {p:Nat} (hp:p<c.length) (h0:c.getD p 0≠0) (h:64<c.getD p 0∨(c.length:Int)≤p+c.getD p 0):lenAt c p<0:=by
 unfold lenAt;rw [if_neg (by omega)];by_cases h1:64<c.getD p 0
 ·rw [if_pos h1];decide
 ·rw [if_neg h1,if_pos (by omega)];decide
theorem get_wd {c:List Int} (hw:∀ x∈c,0≤x∧x<4294967296) (p:Nat):0≤c.getD p 0∧c.getD p 0<4294967296:=by
 by_cases h:p<c.length
 ·have e:c.getD p 0=c[p]:=by simp [List.getD,h]
  rw [e];exact hw _ (List.getElem_mem h)
 ·have e:c.getD p 0=0:=by simp [List.getD,Nat.le_of_not_lt h]
  rw [e];decide
theorem rowU_part {W:World} {b o n:Nat} {c:List Int} (h:RowU W (some ⟨b,o,none⟩) n c) {p m:Nat} (hm:(c.getD p 0).toNat=m) (hp:p+m<n):RowU W (some ⟨b,o+(p+1),none⟩) m (recAt c p):=by
 refine ⟨rec_len hm (by rw [h.1];exact hp),.inr ⟨b,o+(p+1),rfl,fun i hi=>?_⟩⟩;obtain ⟨b',o',e,_,hc⟩:=h.at (by omega);cases e;rw [rec_at hm hi,show o+(p+1)+i=o+(p+1+i) by omega];exact hc (p+1+i) (by omega)
theorem each_any (F:Nat) (caps:Array Value) (J:Nat→World→Prop) (a:Option Addr) (n cap:Nat) (c:List Int) (w:World) (hJ:∀ k W,J k W→RowU W a n c) (h0:J 0 w) (hcap:n≤cap) (hw:∀ x∈c,0≤x∧x<4294967296) (hK:∀ args w,(callFunc F args).run Tryz.prog w = .ok (.enter F args) w)
  (hf:∀ (k p m b o:Nat) (W:World),J k W→(itD c k).2=p→itD c (k+1)=((itD c k).1++[recAt c p],p+m+1)→RowU W (some ⟨b,o,none⟩) m (recAt c p)→1≤m→m≤64→p≤2048→Calls Tryz.prog F (#[.slice (some ⟨b,o,none⟩) m m]++caps) W fun e w'=>e = .returned (.tuple #[])∧J (k+1) w') :
  Calls Tryz.prog 62 #[.slice a n cap,.func (.func F) #[] caps] w fun e w'=>EPost J c e w':=by
 have hcl:=(hJ 0 w h0).1;have H0:Hid (J 0 w):=h0;have HN:Hid (c.length=n):=hcl;by_cases hmay:1≤n∧n≤2048
 ·obtain ⟨b,o,rfl,_,_⟩:=(hJ 0 w h0).at (by omega);have HJ:Hid (∀ k W,J k W→RowU W (some ⟨b,o,none⟩) n c):=hJ
  have HCL:Hid (∀ k W,J k W→∀ j,j<n→W.cell? ⟨b,o+j,none⟩=some (.int .u32 (c.getD j 0))):=fun k W h j hj=>by
   obtain ⟨b',o',e,_,hc⟩:=(hJ k W h).at (by omega);cases e;exact hc j hj
  have HW:Hid (∀ p,0≤c.getD p 0∧c.getD p 0<4294967296):=get_wd hw;have HF:Hid (∀ (k p m b o:Nat) (W:World),J k W→(itD c k).2=p→itD c (k+1)=((itD c k).1++[recAt c p],p+m+1)→RowU W (some ⟨b,o,none⟩) m (recAt c p)→1≤m→m≤64→p≤2048→Calls Tryz.prog F (#[.slice (some ⟨b,o,none⟩) m m]++caps) W fun e w'=>e = .returned (.tuple #[])∧J (k+1) w'):=hf;have HMY:Hid (May c):=⟨by omega,by omega⟩
  obtain ⟨hn1,hn2⟩:=hmay;have d1:decide ((n:Int)<1)=false:=by simp;omega
  have d2:decide ((2048:Int)<(n:Int))=false:=by simp;omega
  clear hJ hf hw hcl h0;go_enter Tryz.func62,Tryz.ntmps62;go_wp2_with fail;go_loopw [6] (fun v6 wr=>∃ (k p:Nat),p≤n∧v6=zI (p:Int)∧(itD c k).2=p∧J k wr) (fun v6 _=>n+1 - (intOf v6).toNat)
  case atStart=>exact ⟨0,0,Nat.zero_le _,rfl,rfl,H0.o⟩
  case round=>
   obtain ⟨k,p,hp,rfl,hk,hj⟩:=hrel;have HJK:Hid (J k wr):=hj;have HK:Hid ((itD c k).2=p):=hk;clear hj hk H0;by_cases hpn:p<n
   ·have k2:=HCL.o k wr HJK.o p hpn;have hz:=HW.o p;have e1:decide ((p:Int)<(n:Int))=true:=by simp;omega
    by_cases hz0:c.getD p 0=0
    ·have HL0:Hid (lenAt c p=0):=len_zero hz0
     have HE:Hid (EPost J c (.returned (.tuple #[zI (p:Int),zI 0])) wr):=by
      have hd:¬ 0<lenAt c (itD c k).2:=by rw [HK.o,HL0.o];decide
      have hr:=rep_of hd;exact ⟨_,_,k,rfl,HJK.o,.inr (.inr ⟨HMY.o,by rw [hr,HK.o];exact HL0.o,hr,by rw [hr,HK.o],rfl⟩)⟩
     rw [hz0] at k2;clear hz hz0 HJ HCL HW HF HK HJK HL0;go_wp2_with fail;go_ret2;exact HE.o
    ·by_cases hbad:64<c.getD p 0∨(n:Int)≤p+c.getD p 0
     ·have HE:Hid (EPost J c (.returned (.tuple #[zI 0,zI 3])) wr):=by
       have hl:=len_bad (c:=c) (p:=p) (by rw [HN.o];exact hpn) hz0 (by rw [HN.o];exact hbad);have hd:¬ 0<lenAt c (itD c k).2:=by rw [HK.o];omega
       exact ⟨_,_,k,rfl,HJK.o,.inr (.inl ⟨HMY.o,by rw [rep_of hd,HK.o];exact hl,rfl,rfl⟩)⟩
      have e0:(c.getD p 0 != 0)=true:=by simpa using hz0
      clear HJ HCL HW HF HK HJK;generalize c.getD p 0=z at *;obtain ⟨hz1,hz2⟩:=hz;by_cases h64:64<z
      ·have e3:decide ((64:Int)<z)=true:=by simpa using h64
       clear hbad;go_wp2_with fail;go_ret2;exact HE.o
      ·have e3:decide ((64:Int)<z)=false:=by simpa using h64
       have e4:decide ((n:Int)<(p:Int)+1+z)=true:=by simp;omega
       clear hbad;go_wp2_with fail;go_ret2;exact HE.o
     ·obtain ⟨m,hm⟩:∃ m:Nat,c.getD p 0=(m:Int):=⟨(c.getD p 0).toNat,by omega⟩
      have hgm:(c.getD p 0).toNat=m:=by rw [hm];simp
      have hm1:1≤m:=by omega
      have hm2:m≤64:=by omega
      have hpm:p+m<n:=by omega
      have hla:lenAt c p=(m:Int):=by rw [len_of (by omega) (by omega) (by rw [HN.o];omega),hm]
      have HIT:Hid (itD c (k+1)=((itD c k).1++[recAt c p],p+m+1)):=by
       have h:=it_live (c:=c) (k:=k) (by rw [HK.o,hla];omega);rw [HK.o,hla,Int.toNat_natCast] at h;exact h
      have HCC:Hid (Calls Tryz.prog F (#[.slice (some ⟨b,o+(p+1),none⟩) m m]++caps) wr fun e w'=>e = .returned (.tuple #[])∧J (k+1) w'):=HF.o k p m b (o+(p+1)) wr HJK.o HK.o HIT.o (rowU_part (HJ.o k wr HJK.o) hgm hpm) hm1 hm2 (by omega);rw [hm] at k2;have e0:((m:Int) != 0)=true:=by simp;omega
      have e3:decide ((64:Int)<(m:Int))=false:=by simp;omega
      have e4:decide ((n:Int)<(p:Int)+1+(m:Int))=false:=by simp;omega
      have hc1:p+1<cap:=by omega
      clear hz hz0 hbad hm hgm hla HF HJ HW HCL;go_wp2_with fail;refine HCC.o.mono ?_;rintro e w1 ⟨rfl,hj1⟩;have HJ1:Hid (J (k+1) w1):=hj1;clear hj1;go_wp2_with fail;go_roundw
      case rel=>exact ⟨k+1,p+m+1,by omega,by go_num,by rw [HIT.o],HJ1.o⟩
      case measure=>simp [intOf];omega
   ·have e1:decide ((p:Int)<(n:Int))=false:=by simp;omega
    have HE:Hid (EPost J c (.returned (.tuple #[zI (p:Int),zI 0])) wr):=by
     have hl:lenAt c p=0:=len_end (by rw [HN.o];omega);have hd:¬ 0<lenAt c (itD c k).2:=by rw [HK.o,hl];decide
     have hr:=rep_of hd;exact ⟨_,_,k,rfl,HJK.o,.inr (.inr ⟨HMY.o,by rw [hr,HK.o];exact hl,hr,by rw [hr,HK.o],rfl⟩)⟩
    clear HJ HCL HW HF HK HJK;go_wp2_with fail;go_ret2;exact HE.o
 ·have HE:Hid (EPost J c (.returned (.tuple #[zI 0,zI 1])) w):=⟨0,1,0,rfl,H0.o,.inl ⟨fun h=>hmay ⟨by rw [← hcl];exact h.1,by rw [← hcl];exact h.2⟩,rfl,rfl⟩⟩
  clear hJ hf hw h0 H0 hcl HN;go_enter Tryz.func62,Tryz.ntmps62;by_cases h1:1≤n
  ·have d1:decide ((n:Int)<1)=false:=by simp;omega
   have d2:decide ((2048:Int)<(n:Int))=true:=by simp;omega
   go_wp2_with fail;go_ret2;exact HE.o
  ·have d1:decide ((n:Int)<1)=true:=by simp;omega
   go_wp2_with fail;go_ret2;exact HE.o
def JR (w:World) (c:List Int) (k:Nat) (W:World):Prop:=∃ V sl,Box w w.heap.size V sl (itD c k).1 W
theorem kreplay:KReplay:=by
 intro w a n cap c h hnil hcap hby hw;have H0:JR w c 0 (w.alloc (.cells #[zS] 104)):=⟨zS,[],Blk.new _ _ _,Lr.zero _ _ _,Recs.nil _ _,(fun i hi=>by cases hi),(Below.refl _ _).alloc (Nat.le_refl _) _⟩
 have HE:Hid (Calls Tryz.prog 62 #[.slice a n cap,.func (.func 63) #[] #[.pointer (some ⟨w.heap.size,0,none⟩)]] (w.alloc (.cells #[zS] 104)) fun e w'=>EPost (JR w c) c e w'):=by
  refine each_any 63 #[.pointer (some ⟨w.heap.size,0,none⟩)] (JR w c) a n cap c _ (fun k W hj=>?_) H0 hcap hw (fun _ _=>by kernel_rfl) ?_
  ·obtain ⟨V,sl,hb⟩:=hj;exact h.below hb.bel
  ·intro k p m b o W hj hp hit hr h1 h2 h3;obtain ⟨V,sl,hb⟩:=hj;have hs:sl.length≤1000000:=by have:=hb.recs.1;have:=it_count c k;omega
   refine (put_record w w.heap.size V sl _ (recAt c p) b o m W hb hr h1 h2 hs).mono ?_;rintro e w' ⟨rfl,V',sl',hb'⟩;refine ⟨rfl,V',sl',?_⟩;rw [hit];exact hb'
 clear H0 h hnil hcap hby hw;go_enter Tryz.func35,Tryz.ntmps35;go_wp2_with fail;refine HE.o.mono ?_;rintro e w1 ⟨x,f,k,rfl,⟨V,sl,hb⟩,hi⟩;have HB:Hid (Box w w.heap.size V sl (itD c k).1 w1):=hb;have HI:Hid ((¬ May c∧x=0∧f=1)∨(May c∧lenAt c (repD c).2<0∧x=0∧f=3)∨(May c∧lenAt c (repD c).2=0∧repD c=itD c k∧x=((repD c).2:Int)∧f=0)):=hi;clear hb hi HE;by_cases hf:f=0
 ·have HR:Hid (RepIs c (itD c k).1 x 0):=by
   rcases HI.o with ⟨_,_,e⟩ | ⟨_,_,_,e⟩ | ⟨q1,q2,q3,q4,_⟩
   ·rw [hf] at e;exact absurd e (by decide)
   ·rw [hf] at e;exact absurd e (by decide)
   ·exact .inr (.inr ⟨q1,q2,by rw [q3],q4,rfl⟩)
  have q0:w1.cell? ⟨w.heap.size,0,none⟩=some V:=HB.o.blk.cell 0;obtain ⟨va,vc,hV,hrd⟩:=HB.o.reads;have HRD:Hid (ReadsF w1 w.heap.size va (itD c k).1.length (itD c k).1):=hrd;have HBL:Hid (Below w.heap.size w w1):=HB.o.bel;subst hf;subst hV;clear hrd HB HI;generalize (itD c k).1=zs at *;have HFW:Hid (zs.length≤100000):=Nat.le_trans (rep_few HR.o).1 (by decide);generalize hzl:zs.length=zl at *;clear hzl;go_wp2_with fail;go_ret3;exact ⟨va,_,vc,zs,x,0,rfl,HRD.o,HFW.o,HR.o,HBL.o⟩
 ·have HR:Hid (RepIs c [] 0 f):=by
   rcases HI.o with ⟨q1,_,e⟩ | ⟨q1,q2,_,e⟩ | ⟨_,_,_,_,e⟩
   ·exact .inl ⟨q1,rfl,rfl,e⟩
   ·exact .inr (.inl ⟨q1,q2,rfl,rfl,e⟩)
   ·exact absurd e hf
  have HBL:Hid (Below w.heap.size w w1):=HB.o.bel;have hne:(f != 0)=true:=by simpa using hf
  clear HB HI hf;go_wp2_with fail;go_ret3;exact ⟨none,0,0,[],0,f,rfl,⟨rfl,.inl rfl⟩,Nat.zero_le _,HR.o,HBL.o⟩
end disk
namespace vnd
open disk (RepIs)
open book (Ev ev0 EMay evL evOf DecIs Cm cm0 So so0 BookIs Sees ECame FirstAt NoneAt)
open acc (Ac Tm Bi TCame ACame)
open cell (Wr RowU)
open Go.RowKit
def NoTwo (w:World) (g:Nat):Prop:=∀ o x y,w.cell? ⟨g,o,none⟩=some (zI x)→w.cell? ⟨g,o+1,none⟩=some (zI y)→False
theorem shop_odd {w:World} {g:Nat} {T:TypeId} {a1 b1:Option Addr} {a2 a3 b2 b3:Nat} {z:Value} (hB:Blk w g #[.slice a1 a2 a3,.slice b1 b2 b3,z] T):NoTwo w g:=by
 intro o x y h1 h2
 match o,h1,h2 with
 | 0,h1,_=>rw [hB.cell 0] at h1;cases h1
 | 1,h1,_=>rw [hB.cell 1] at h1;cases h1
 | o+2,_,h2=>rw [hB.cell (o+2+1)] at h2;simp at h2
theorem rowC_far {w W:World} {g:Nat} {v':Array Value} {T':TypeId} {p:Option Addr} {n:Nat} {xs:List book.Cu} (h:book.RowC w p n xs) (hg:NoTwo w g) (hU:Upd w W g v' T'):book.RowC W p n xs:=by
 refine ⟨h.1,?_⟩;rcases h.2 with h0 | ⟨b,off,rfl,lb,hc⟩
 ·exact .inl h0
 ·rcases Nat.eq_zero_or_pos n with h0 | h0
  ·exact .inl h0
  ·have hne:b≠g:=fun e=>by
    subst e;have h1:=hc 0 0 h0 (by decide);have h2:=hc 0 1 h0 (by decide);exact hg (off+0*8+0) (xs.getD 0 book.cu0).me (xs.getD 0 book.cu0).rv (by rw [h1];rfl) (by rw [show off+0*8+0+1=off+0*8+1 by omega,h2];rfl)
   exact .inr ⟨b,off,rfl,by rw [hU.size];exact lb,fun i j hi hj=>by rw [hU.cell _ hne rfl];exact hc i j hi hj⟩
theorem rowS_far {w W:World} {g:Nat} {v':Array Value} {T':TypeId} {p:Option Addr} {n:Nat} {l:List So} (h:book.RowS w p n l) (hg:NoTwo w g) (hU:Upd w W g v' T'):book.RowS W p n l:=by
 refine ⟨h.1,?_⟩;rcases h.2 with h0 | ⟨b,off,rfl,lb,hc⟩
 ·exact .inl h0
 ·rcases Nat.eq_zero_or_pos n with h0 | h0
  ·exact .inl h0
  ·have hne:b≠g:=fun e=>by
    subst e;have h1:=hc 0 0 h0 (by decide);have h2:=hc 0 1 h0 (by decide);exact hg (off+0*5+0) (l.getD 0 so0).id (l.getD 0 so0).cl (by rw [h1];rfl) (by rw [show off+0*5+0+1=off+0*5+1 by omega,h2];rfl)
   exact .inr ⟨b,off,rfl,by rw [hU.size];exact lb,fun i j hi hj=>by rw [hU.cell _ hne rfl];exact hc i j hi hj⟩
theorem came_far {w W:World} {g:Nat} {v':Array Value} {T':TypeId} {p:Option Addr} {n cap:Nat} {l:List tar.Du} (h:tar.Came w p n cap l) (hg:NoTwo w g) (hU:Upd w W g v' T'):tar.Came W p n cap l:=
 acc.came_upd h hU fun hn x hx e=>by
  obtain ⟨b,off,hp,lb,hc⟩:=h.row.at hn;rw [hp] at hx;cases hx;have e2:b=g:=e;subst e2;exact hg _ _ _ (hc 0 hn).1 (hc 0 hn).2
theorem sees_far {w W:World} {g:Nat} {v':Array Value} {T':TypeId} {p:Option Addr} {n:Nat} {xs:List book.Cu} {bk:List Cm} (h:Sees w p n xs bk) (hg:NoTwo w g) (hU:Upd w W g v' T'):Sees W p n xs bk:=
 ⟨rowC_far h.row hg hU,h.len,h.num,fun i hi=>came_far (h.ds i hi) hg hU,fun i hi=>rowS_far (h.so i hi) hg hU⟩
end vnd
namespace words
open Go.RowKit
theorem own_ru {w:World} {base:Nat} {v:Value} {n:Nat} {l:List Nat} (h:w.ownsRow base 99 1 v n (l.map fun (x:Nat)=>Value.int .u32 (x:Int))) (hl:l.length=n) (hlt:∀ x∈l,x<4294967296) :
  ∃ a cap,v = .slice a n cap∧Ru w a n cap l:=by
 rcases h.2 with ⟨rfl,rfl⟩ | ⟨g,cap,cur,rfl,hb,hg,hnc,_,hcs,htake⟩
 ·exact ⟨none,0,rfl,hl,hlt,fun _=>rfl,Nat.le_refl _,.inl rfl,fun _ _ _ e _=>by cases e⟩
 ·refine ⟨_,cap,rfl,hl,hlt,(fun e=>by cases e),hnc,.inr ⟨g,0,rfl,fun i hi=>?_⟩,fun b off s e _=>by obtain ⟨rfl,-,-⟩:=(by simpa using e:g=b∧0=off∧none=s);exact ⟨_,_,hg⟩⟩;have:=h.cellAt i (by omega);rw [Nat.zero_add,this];simp [List.getD,List.getElem?_eq_getElem (show i<l.length by omega)]
theorem twin_any (a:Option Addr) (n cap m:Nat) (w:World) (hr:Ru w a n cap (dig m)) (hl:n≤100) :
  Calls Tryz.prog 150 #[.slice a n cap] w fun e w'=>Gives w m e w':=by
 obtain ⟨i0,hi,hz0,hz1,hz2⟩:=info_parts info_u32;cases a with
 | none=>
  have hc:=hr.nil rfl;have h0:n=0:=by have:=hr.room;omega
  subst hc h0;have happ:∀ w:World,(Builtin.append_ #[25,25] 25 #[zS,zS]).run Tryz.prog w = .ok (zS) w:=fun w=>by kernel_rfl
  have HG:Hid (Gives w m (.returned (zS)) w):=Gives.mk hr (Below.refl _ _);clear hr;go_enter Tryz.func150,Tryz.ntmps150;go_wp2;go_ret;exact HG.o
 | some x=>
  have HR:Hid (Ru w (some x) n cap (dig m)):=hr;clear hr;go_enter Tryz.func150,Tryz.ntmps150
  go_wp2_with (first
   | (at_builtin;refine wpList_append_own _ rfl _ _ 25 rfl w.heap.size 99 i0 (.int .u32 0) 1 4 Tryz.underlying25 hi hz0 hz1 hz2 rfl (by decide) _ _ _ rfl (World.ownsRow_nil _ _ _ _) x n cap ((dig m).map fun (x:Nat)=>Value.int .u32 (x:Int)) rfl ?c0 ?c1 ?c2 ?c3 ?c4 ?c5 ?_)
   | go_in)
  case c0=>simp [HR.o.len]
  case c5=>exact Nat.le_refl _
  case c1=>
   intro j u hu;rcases HR.o.cell with h | ⟨b,off,h,hc⟩
   ·rw [List.getElem?_eq_none (by simp [HR.o.len];omega)] at hu;cases hu
   ·obtain rfl:=Option.some.inj h;by_cases hj:j<(dig m).length
    ·simp [List.getElem?_eq_getElem hj] at hu;subst hu;have:=hc j (by rw [HR.o.len] at hj;exact hj);simpa [Addr.add_lit,List.getD,List.getElem?_eq_getElem hj] using this
    ·rw [List.getElem?_eq_none (by simp;omega)] at hu;cases hu
  case c2=>intro u hu;obtain ⟨z,_,rfl⟩:=List.mem_map.1 hu;rfl
  case c3=>unfold maxLen;omega
  case c4=>omega
  intro v' w' hown hg _;obtain ⟨a',cap',hv,hrow⟩:=own_ru (l:=dig m) (n:=n) (by simpa using hown) HR.o.len HR.o.lt;rw [hv];have HG:Hid (Gives w m (.returned (.slice a' n cap')) w'):=Gives.mk hrow ((Below.refl _ _).grown hg (Nat.le_refl _) (fun k hk=>by simp [Value.ownBlock] at hk));clear hown hg hrow;go_wp2;go_ret;exact HG.o
def lenOf:Value→Nat
 | .slice _ n _=>n
 | _=>0
theorem own_len {w:World} {base e k:Nat} {v:Value} {n:Nat} {xs:List Value} (h:w.ownsRow base e k v n xs):lenOf v=n:=by
 rcases h.2 with ⟨rfl,rfl⟩ | ⟨g,cap,cur,rfl,_⟩ <;> rfl
theorem own_below {w w':World} {base e k:Nat} {v:Value} {n:Nat} {xs:List Value} (h:w.ownsRow base e k v n xs) (hb:Below w.heap.size w w'):w'.ownsRow base e k v n xs:=
 ⟨h.1,h.2.imp id fun ⟨g,cap,cur,h1,h2,h3,h4⟩=>⟨g,cap,cur,h1,h2,by rw [hb.block g (heap_lt h3)];exact h3,h4⟩⟩
theorem own_lt {w:World} {base e k:Nat} {v:Value} {n:Nat} {xs:List Value} (h:w.ownsRow base e k v n xs) {g:Nat} (hg:v.ownBlock=some g):base≤g∧g<w.heap.size:=by
 rcases h.2 with ⟨rfl,rfl⟩ | ⟨g',cap,cur,rfl,hb,h3,_⟩
 ·simp [Value.ownBlock] at hg
 ·simp [Value.ownBlock] at hg;subst hg;exact ⟨hb,heap_lt h3⟩
theorem Ru.grown {w w':World} {a:Option Addr} {n cap:Nat} {l:List Nat} {row:Option Nat} (h:Ru w a n cap l) (hg:w.grownBy w' row) (hne:∀ b off,a=some ⟨b,off,none⟩→some b≠row):Ru w' a n cap l:=by
 refine ⟨h.len,h.lt,h.nil,h.room,?_,fun b off s e hn=>(h.typ b off s e hn).same (hg.block b (h.typ b off s e hn).lt (by
  rcases h.cell with h0 | ⟨b',off',e',_⟩
  ·exact absurd h0 hn
  ·rw [e'] at e;obtain ⟨rfl,rfl,rfl⟩:=(by simpa using e:b'=b∧off'=off∧none=s)
   exact hne _ _ e'))⟩
 rcases h.cell with h0 | ⟨b,off,rfl,hc⟩
 ·exact .inl h0
 ·refine .inr ⟨b,off,rfl,fun i hi=>?_⟩;have h1:=hc i hi;rw [World.cell?_of_block (w:=w) (a:=⟨b,off+i,none⟩) (hg.block b (World.block_lt_of_cell? w _ h1) (hne b off rfl))];exact h1
def TextInv (m M:Nat) (ds:List Int):Prop:=M≤m∧((M=0∧ds≠[]∧decL m=ds.reverse)∨(0<M∧decL m=decL M++ds.reverse))
theorem text_more {m M:Nat} {ds:List Int} (h:TextInv m M ds) (h0:0<M):TextInv m (M / 10) (ds++[48+((M % 10:Nat):Int)]):=by
 obtain ⟨hle,h⟩:=h
 have he:decL m=decL M++ds.reverse:=by
  rcases h with h | h
  ·omega
  ·exact h.2
 refine ⟨by omega,?_⟩;by_cases h10:M<10
 ·left;refine ⟨by omega,by simp,?_⟩;rw [he,decL_one h10,Nat.mod_eq_of_lt h10];simp
 ·right;refine ⟨by omega,?_⟩;rw [he,decL_more h10];simp
theorem text_len {m M:Nat} {ds:List Int} (h:TextInv m M ds) (h0:0<M):ds.length<(decL m).length:=by
 rcases h.2 with h | ⟨_,h⟩
 ·omega
 ·rw [h];have:0<(decL M).length:=List.length_pos_iff.2 (decL_ne M);simp;omega
theorem dig_mono {M m:Nat} (h:M≤m):(dig M).length≤(dig m).length:=by
 rcases Nat.lt_or_ge (dig m).length (dig M).length with h1 | h1
 ·have:=len_less h1;omega
 ·exact h1
theorem info_u8:(Tryz.prog.info? 5).map (fun i=>(i.zero,i.size,i.bytes))=some (some (.int .u8 0),1,1):=by kernel_rfl
def RB (w:World) (base g cap L:Nat) (f:Nat→Int):Prop:=w.ownsRow base 5 1 (.slice (some ⟨g,0,none⟩) L cap) L ((List.range L).map fun k=>Value.int .u8 (f k))
theorem RB.cell {w:World} {base g cap L:Nat} {f:Nat→Int} (h:RB w base g cap L f) {i:Nat} (hi:i<L):w.cell? ⟨g,i,none⟩=some (.int .u8 (f i)):=by
 have:=World.ownsRow.cellAt h i (by omega);rw [this];simp [hi]
theorem RB.free {w:World} {base g cap L:Nat} {f:Nat→Int} (h:RB w base g cap L f) (i:Nat):w.frozen? ⟨g,i,none⟩=false:=World.ownsRow.frozenAt h i
theorem RB.set {w:World} {base g cap L:Nat} {f:Nat→Int} (h:RB w base g cap L f) (i:Nat) (v:Int):RB (w.setCell ⟨g,i,none⟩ (.int .u8 v)) base g cap L (updd f i v):=by
 have:=(World.ownsRow.stored h i (.int .u8 v)).1;unfold RB;rw [show ((List.range L).map fun k=>Value.int .u8 (updd f i v k))=((List.range L).map fun k=>Value.int .u8 (f k)).set i (.int .u8 v) from ?_]
 ·exact this
 ·apply List.ext_getElem?;intro k;by_cases hk:k<L
  ·by_cases e:k=i
   ·subst e;simp [updd,hk]
   ·rw [List.getElem?_set_ne (by omega)];simp [updd,hk,e]
  ·rw [List.getElem?_eq_none (by simp;omega),List.getElem?_eq_none (by simp;omega)]
theorem conv_row (w:World) (base g cap L:Nat) (f:Nat→Int) (h:RB w base g cap L f) :
  (convert 177 9 (.slice (some ⟨g,0,none⟩) L cap)).run Tryz.prog w = .ok (.string (strOf ((List.range L).map f))) w:=by
 rw [run_convert_bytes_string _ _ _ _ _ _ _ Tryz.underlying177 Tryz.underlying5 Tryz.underlying9,run_bytesToString _ _ _ _ ((List.range L).map f)]
 ·rfl
 ·have:=run_loadCells (P:=Tryz.prog) w ⟨g,0,none⟩ L (fun i=> .int .u8 (f i)) (fun j hj=>by rw [Addr.add_lit,Nat.zero_add];exact h.cell (by omega));rw [this]
  congr 2
  simp
def Turned (L i:Nat) (d f:Nat→Int):Prop:=∀ k,k<L→f k=if k<i∨L - 1 - i<k then d (L - 1 - k) else d k
theorem turned_step {L i:Nat} {d f:Nat→Int} (h:Turned L i d f) (hi:i<L - 1 - i):Turned L (i+1) d (updd (updd f i (f (L - 1 - i))) (L - 1 - i) (f i)):=by
 intro k hk;have h1:=h i (by omega);have h2:=h (L - 1 - i) (by omega);have h3:=h k hk;rw [if_neg (by omega)] at h1 h2;unfold updd;by_cases e1:k=L - 1 - i
 ·rw [if_pos e1,if_pos (by omega),h1];congr 1;omega
 ·rw [if_neg e1];by_cases e2:k=i
  ·rw [if_pos e2,if_pos (by omega),h2];congr 1;omega
  ·rw [if_neg e2,h3];by_cases e3:k<i∨L - 1 - i<k
   ·rw [if_pos e3,if_pos (by omega)]
   ·rw [if_neg e3,if_neg (by omega)]
theorem turned_end {L i:Nat} {d f:Nat→Int} (h:Turned L i d f) (hi:¬ i<L - 1 - i) (ds:List Int) (hL:ds.length=L) (hd:∀ k,d k=ds.getD k 0):(List.range L).map f=ds.reverse:=by
 apply List.ext_getElem (by simp [hL]);intro k h1 h2;have hk:k<L:=by simpa using h1
 rw [List.getElem_reverse,List.getElem_map,List.getElem_range,h k hk]
 have e:d (L - 1 - k)=ds[ds.length - 1 - k]:=by
  subst hL;rw [hd];simp [List.getD,List.getElem?_eq_getElem (show ds.length - 1 - k<ds.length by omega)]
 by_cases c:k<i∨L - 1 - i<k
 ·rw [if_pos c,e]
 ·rw [if_neg c,← e];congr 1;omega
def StrPost (w:World) (m:Nat) (e:Ending) (w':World):Prop:=e = .returned (.string (strOf (decL m)))∧Below w.heap.size w w'
theorem bg_at {w w':World} {z:Nat} {v:Value} (h:w.heap[z]?=some (.cells #[.bool false,v] 240 (0,0))) (hb:Below w.heap.size w w'):w'.cell? ⟨z,0,none⟩=some (.bool false)∧w'.cell? ⟨z,1,none⟩=some v:=by
 have:=ob_cells (w:=w') (z:=z) (s:=false) (v:=v) (by rw [hb.block z (heap_lt h)];exact h);exact ⟨this.1,this.2.1⟩
theorem text_any (z m:Nat) (w:World) (hg:Bg w z m) (h0:0<m) (hl:(dig m).length≤100) (hd:(decL m).length≤100) :
  Calls Tryz.prog 106 #[.pointer (some ⟨z,0,none⟩),zI 10] w fun e w'=>StrPost w m e w':=by
 obtain ⟨i0,hi,hz0,hz1,hz2⟩:=info_parts info_u8;obtain ⟨a,n,c,hcz,hr⟩:=hg
 have hn0:n≠0:=by
  intro e;have:=hr.len;rw [e] at this;have:=dig_nil (List.eq_nil_of_length_eq_zero this);omega
 have hnl:n≤100:=by have:=hr.len;omega
 have HR:Hid (Ru w a n c (dig m)):=hr;have HZ:Hid (w.heap[z]?=some (.cells #[.bool false,.slice a n c] 240 (0,0))):=hcz;obtain ⟨c0,c1⟩:=bg_at hcz (Below.refl _ w);have hnb:((n:Int) == 0)=false:=beq_eq_false_iff_ne.2 (by omega);clear hr hcz;go_enter Tryz.func106,Tryz.ntmps106;go_wp2_with fail;refine (twin_any a n c m w HR.o hnl).mono ?_;rintro e w1 ⟨a1,n1,k1,rfl,hr1,hb1⟩;have HR1:Hid (Ru w1 a1 n1 k1 (dig m)):=hr1;have HB1:Hid (Below w.heap.size w w1):=hb1;clear hr1 hb1 c0 c1;go_wp2_with fail;go_loopw [5,6] (fun bv av wr=>∃ (V:Value) (M:Nat) (ds:List Int) (a:Option Addr) (n c:Nat),V=bv∧av = .slice a n c∧Ru wr a n c (dig M)∧wr.ownsRow w.heap.size 5 1 bv ds.length (ds.map (Value.int .u8))∧Below w.heap.size w wr∧TextInv m M ds) (fun bv _ _=>100 - lenOf bv)
 case atStart=>exact ⟨_,m,[],a1,n1,k1,rfl,rfl,HR1.o,World.ownsRow_nil _ _ _ _,HB1.o,Nat.le_refl _,.inr ⟨h0,by simp⟩⟩
 case round=>
  obtain ⟨bv,M,ds,a2,n2,k2,hbv,rfl,hr2,hown,hb2,hti⟩:=hrel;subst hbv;by_cases hM:M=0
  ·subst hM;have hn2:n2=0:=by have:=hr2.len;rw [dig_zero] at this;simpa using this.symm
   subst hn2
   obtain ⟨hdn,hde⟩:ds≠[]∧decL m=ds.reverse:=by
    rcases hti.2 with h | h
    ·exact h.2
    ·omega
   have hL0:0<ds.length:=List.length_pos_iff.2 hdn;have hL1:ds.length≤100:=by rw [hde] at hd;simpa using hd
   obtain ⟨g,cap,hbv,hgb,hgl⟩:=hown.form hL0;subst hbv;obtain ⟨L,hLL⟩:∃ L,ds.length=L:=⟨_,rfl⟩
   have HROW:Hid (RB wr w.heap.size g cap L (fun k=>ds.getD k 0)):=by
    have e:ds.map (Value.int .u8)=(List.range L).map fun k=>Value.int .u8 (ds.getD k 0):=by
     apply List.ext_getElem (by simp [hLL]);intro k h1 h2;simp [List.getD,List.getElem?_eq_getElem (show k<ds.length by simpa using h1)]
    have goal:RB wr w.heap.size g cap L (fun k=>ds.getD k 0):=by
     unfold RB;rw [← e,← hLL];exact hown
    exact goal
   rw [hLL] at hL0 hL1;rw [hLL];obtain ⟨c0,c1⟩:=bg_at HZ.o hb2;have HB:Hid (Below w.heap.size w wr):=hb2;have HD:Hid (decL m=ds.reverse∧ds.length=L):=⟨hde,hLL⟩
   clear hown hb2 hti hde hdn hLL hr2 hd hi hz0 hz1 hz2;go_wp2_with fail;go_loopw [8,9] (fun iv jv wr=>∃ (i:Nat) (f:Nat→Int),i≤L∧iv=zI (i:Int)∧jv=zI ((L:Int) - 1 - (i:Int))∧i≤(L - i)+1∧RB wr w.heap.size g cap L f∧Below w.heap.size w wr∧Turned L i (fun k=>ds.getD k 0) f) (fun iv _ _=>L - (intOf iv).toNat)
   case atStart=>exact ⟨0,_,Nat.zero_le _,rfl,by congr 1;omega,by omega,HROW.o,HB.o,fun k hk=>by rw [if_neg (by omega)]⟩
   case round=>
    obtain ⟨i,f,hiL,rfl,rfl,hij,hrow,hb3,htu⟩:=hrel;by_cases hlt:i<L - 1 - i
    ·have ej:(L:Int) - 1 - (i:Int)=((L - 1 - i:Nat):Int):=by omega
     have r0:=hrow.cell (i:=i) (by omega);have r1:=hrow.cell (i:=L - 1 - i) (by omega);have f0:=hrow.free i;have f1:=hrow.free (L - 1 - i);have HT:Hid (Turned L (i+1) (fun k=>ds.getD k 0) (updd (updd f i (f (L - 1 - i))) (L - 1 - i) (f i))):=turned_step htu hlt;have HN:Hid (RB ((wr.setCell ⟨g,i,none⟩ (.int .u8 (f (L - 1 - i)))).setCell ⟨g,L - 1 - i,none⟩ (.int .u8 (f i))) w.heap.size g cap L (updd (updd f i (f (L - 1 - i))) (L - 1 - i) (f i))):=(hrow.set _ _).set _ _;have HBN:Hid (Below w.heap.size w ((wr.setCell ⟨g,i,none⟩ (.int .u8 (f (L - 1 - i)))).setCell ⟨g,L - 1 - i,none⟩ (.int .u8 (f i)))):=below_set (below_set hb3 _ _ _ hgb) _ _ _ hgb;have HJ:Hid (((L - 1 - i:Nat):Int) - 1=(L:Int) - 1 - ((i+1:Nat):Int)):=(by omega:((L - 1 - i:Nat):Int) - 1=(L:Int) - 1 - ((i+1:Nat):Int))
     rw [ej];have hjL:L - 1 - i<L:=by omega
     have hij2:i<L - 1 - i:=hlt;have r2:=(hrow.set i (f (L - 1 - i))).cell (i:=L - 1 - i) (by omega);have f2:=(hrow.set i (f (L - 1 - i))).free (L - 1 - i);clear hrow hb3 htu ej hlt;obtain ⟨x,hx⟩:∃ x,f i=x:=⟨_,rfl⟩
     obtain ⟨y,hy⟩:∃ y,f (L - 1 - i)=y:=⟨_,rfl⟩
     rw [hx,hy] at HT HN HBN;rw [hx] at r0;rw [hy] at r1 r2 f2;clear hx hy;generalize updd f i y (L - 1 - i)=yy at r2;generalize hjj:L - 1 - i=j at *;go_wp2_with fail;go_roundw
     case rel=>exact ⟨i+1,_,by omega,by go_num,by rw [HJ.o],by omega,HN.o,HBN.o,HT.o⟩
     case measure=>simp [intOf];omega
    ·have hnl2:¬ (i:Int)<(L:Int) - 1 - (i:Int):=by omega
     have hcv:=conv_row wr w.heap.size g cap L f hrow;rw [turned_end htu hlt ds HD.o.2 fun _=>rfl,← HD.o.1] at hcv;have HB3:Hid (Below w.heap.size w wr):=hb3;clear hrow hb3 htu;go_wp2_with fail;go_ret;exact ⟨rfl,HB3.o⟩
  ·have hM0:0<M:=by omega
   have hn2:n2≠0:=by
    intro e;have:=hr2.len;rw [e] at this;have:=dig_nil (List.eq_nil_of_length_eq_zero this);omega
   have hl2:n2≤100:=by have:=hr2.len;have:=dig_mono hti.1;omega
   have hds:ds.length<100:=by have:=text_len hti hM0;omega
   have HTI:Hid (TextInv m (M / 10) (ds++[48+((M % 10:Nat):Int)])):=text_more hti hM0;have HRW:Hid (Ru wr a2 n2 k2 (dig M)):=hr2;have HOW:Hid (wr.ownsRow w.heap.size 5 1 bv ds.length (ds.map (Value.int .u8))):=hown;have HB2:Hid (Below w.heap.size w wr):=hb2;have hn2i:0<(n2:Int):=by omega
   clear hr2 hown hb2 hti hM;go_wp2_with fail;refine (small_any a2 n2 k2 10 (dig M) wr HRW.o hl2 (by omega) (by omega)).mono ?_;rintro e w3 ⟨a3,n3,k3,rfl,hr3,hb3,hfr⟩;rw [nv_dig] at hr3;rw [nv_dig];have hr10:M % 10<10:=Nat.mod_lt _ (by decide);generalize hrr:M % 10=r at *;have HO3:Hid (w3.ownsRow w.heap.size 5 1 bv ds.length (ds.map (Value.int .u8))):=own_below HOW.o hb3
   have HR3:Hid (Ru w3 a3 n3 k3 (dig (M / 10))∧∀ b off,a3=some ⟨b,off,none⟩→some b≠bv.ownBlock):=⟨hr3,fun b off e h=>by
    have h1:=own_lt HOW.o h.symm;have h2:=hfr b off e;omega⟩
   have HB3:=shB HB2 hb3;have hri:(r:Int)<10:=by omega
   have hrm:(48+(r:Int)) % 256=48+(r:Int):=by omega
   clear hr3 hb3 hfr HRW HOW HB2
   go_wp2_with (first
    | (at_builtin;refine wpList_append_lies _ rfl _ _ 177 rfl w.heap.size 5 i0 (.int .u8 0) 1 1 Tryz.underlying177 hi hz0 hz1 hz2 rfl (by decide) _ _ _ rfl (HO3.o.alloc _) ⟨w3.heap.size,0,none⟩ 1 1 [.int .u8 (48+(r:Int))] rfl rfl ?c1 ?c2 (by decide) ?c3 ?c4 ?c5 _ rfl ?_))
   case c1=>
    intro j u hj
    match j,hj with
    | 0,hj=>simp at hj;subst hj;simp [Addr.add]
   case c2=>intro u hu;simp at hu;subst hu;rfl
   case c3=>unfold maxLen;omega
   case c4=>omega
   case c5=>have:=HB3.o.size;simp;omega
   intro g4 cap4 w4 hown4 hgr4 _ _
   have HO4:Hid (w4.ownsRow w.heap.size 5 1 (.slice (some ⟨g4,0,none⟩) (ds.length+1) cap4) (ds++[48+(r:Int)]).length ((ds++[48+(r:Int)]).map (Value.int .u8))):=by
    have goal:w4.ownsRow w.heap.size 5 1 (.slice (some ⟨g4,0,none⟩) (ds.length+1) cap4) (ds++[48+(r:Int)]).length ((ds++[48+(r:Int)]).map (Value.int .u8)):=by
     simpa using hown4
    exact goal
   have HR4:Hid (Ru w4 a3 n3 k3 (dig (M / 10))):=(HR3.o.1.below ((Below.refl _ w3).alloc (Nat.le_refl _) _)).grown hgr4 HR3.o.2
   have HB4:Hid (Below w.heap.size w w4):=by
    have hba:=HB3.o.alloc (HB3.o.size) (.cells #[.int .u8 (48+(r:Int))] 5);exact hba.grown hgr4 hba.size (fun k hk=>(own_lt HO3.o hk).1)
   have HLB:Hid (lenOf bv=ds.length):=own_len HO3.o;clear hown4 hgr4 HO3 HR3 HB3;go_wp2_with fail;go_roundw
   case rel=>exact ⟨_,M / 10,_,a3,n3,k3,rfl,rfl,HR4.o,HO4.o,HB4.o,HTI.o⟩
   case measure=>rw [HLB.o];simp [lenOf];omega
theorem str_zero:strOf (decL 0)=⟨#[48]⟩:=by rw [decL_one (by decide)];rfl
theorem text_zero (z:Nat) (w:World) (hg:Bg w z 0) :
  Calls Tryz.prog 106 #[.pointer (some ⟨z,0,none⟩),zI 10] w fun e w'=>StrPost w 0 e w':=by
 obtain ⟨a,n,c,hcz,hr⟩:=hg;have hn:n=0:=by have:=hr.len;rw [dig_zero] at this;simpa using this.symm
 subst hn;obtain ⟨c0,c1⟩:=bg_at hcz (Below.refl _ w);have HP:Hid (StrPost w 0 (.returned (.string ⟨#[48]⟩)) w):=⟨by rw [str_zero],Below.refl _ _⟩
 clear hr hcz;go_enter Tryz.func106,Tryz.ntmps106;go_wp2_with fail;go_ret;exact HP.o
theorem string_any (z m:Nat) (w:World) (hg:Bg w z m) (hl:(dig m).length≤100) (hd:(decL m).length≤100) :
  Calls Tryz.prog 59 #[.pointer (some ⟨z,0,none⟩)] w fun e w'=>StrPost w m e w':=by
 have HT:Hid (Calls Tryz.prog 106 #[.pointer (some ⟨z,0,none⟩),zI 10] w fun e w'=>StrPost w m e w'):=by
  by_cases h0:m=0
  ·subst h0;exact text_zero z w hg
  ·exact text_any z m w hg (by omega) hl hd
 clear hg;go_enter Tryz.func59,Tryz.ntmps59;go_wp2_with fail;refine HT.o.mono ?_;rintro e w1 ⟨rfl,hb⟩;have HB:Hid (Below w.heap.size w w1):=hb;clear hb;go_wp2_with fail;go_ret;exact ⟨rfl,HB.o⟩
end words
end Go.Proofs.YtnpblpbohcegoaaGreatDoor
