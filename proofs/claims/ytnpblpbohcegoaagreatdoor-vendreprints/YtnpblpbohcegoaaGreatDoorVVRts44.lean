import Derived.Test.YtnpblpbohcegoaaGreatDoorVVRts29
import Derived.Test.YtnpblpbohcegoaaGreatDoorVVRts37
set_option linter.unusedVariables false
set_option linter.unusedSimpArgs false
set_option maxHeartbeats 4000000
set_option maxRecDepth 100000
namespace Go.Proofs.YtnpblpbohcegoaaGreatDoor
namespace vnd
open disk (RepIs)
open book (Ev ev0 EMay evL evOf DecIs Cm cm0 So so0 BookIs Sees ECame FirstAt NoneAt)
open acc (Ac Tm Bi TCame ACame)
open cell (Wr RowU)
open Go.RowKit
theorem info_ev:∃ i,Tryz.prog.info? 72=some i∧i.zero=some (.agg #[zI 0,zI 0,zI 0,zI 0,zI 0,zI 0,zI 0,zI 0,zI 0,zI 0,zI 0,zI 0,zI 0])∧i.size=13∧i.bytes=104:=info_parts (by kernel_rfl)
theorem make_ev (N:Nat) (h:N≤100000) (w:World):(Instr.makeSlice 58 (zI 0) (zI (N:Int))).run Tryz.prog w = .ok (.slice (some ⟨w.heap.size,0,none⟩) 0 N) (w.alloc (.cells (madeCells (Value.agg #[zI 0,zI 0,zI 0,zI 0,zI 0,zI 0,zI 0,zI 0,zI 0,zI 0,zI 0,zI 0,zI 0]).cells (N*13)) 72)):=by
 obtain ⟨i0,hi,hz0,hz1,hz2⟩:=info_ev;have:=run_make (P:=Tryz.prog) w 58 72 i0 (.agg #[zI 0,zI 0,zI 0,zI 0,zI 0,zI 0,zI 0,zI 0,zI 0,zI 0,zI 0,zI 0,zI 0]) Tryz.underlying58 hi hz0 .i64 .i64 0 (N:Int) (by omega) (by omega) (by rw [hz2];omega) (by omega);rw [hz1,show (N:Int).toNat=N by omega] at this;exact this
theorem pevents (a:Option Addr) (n cap:Nat) (c:List Int) (w:World) (h:Dk w a n cap c):Calls Tryz.prog 50 #[.slice a n cap] w fun e w'=>KeptPost w c e w':=by
 have HRE:Hid (Calls Tryz.prog 35 #[.slice a n cap] w fun e w'=>disk.RepNew w c e w'):=disk.kreplay w a n cap c h.row h.nil h.room h.bytes h.wd;have HW:Hid (∀ x∈c,0≤x∧x<4294967296):=h.wd;clear h;go_enter Tryz.func50,Tryz.ntmps50;go_wp2_with fail;refine HRE.o.mono ?_;rintro e w1 ⟨ra,N,rc,o,x,f,rfl,hrd,hn,hri,hb1⟩;have HB1:Hid (Below w.heap.size w w1):=hb1;have HRI:Hid (RepIs c o x f):=hri;have HRD:Hid (disk.ReadsF w1 w.heap.size ra N o):=hrd;have HOL:Hid (o.length=N):=hrd.1;have hol:N≤2048:=by rw [← hrd.1];exact rep_len hri
 clear hrd hri hb1 HRE hn;by_cases h0:f=0
 ·subst h0;have hmk:=make_ev N (by omega) w1;have HL0:Hid (book.Le (w1.alloc (.cells (madeCells (Value.agg #[zI 0,zI 0,zI 0,zI 0,zI 0,zI 0,zI 0,zI 0,zI 0,zI 0,zI 0,zI 0,zI 0]).cells (N*13)) 72)) w1.heap.size (.slice (some ⟨w1.heap.size,0,none⟩) 0 N) []):=World.ownsRow_made w1 _ N (Nat.le_refl _) (by unfold maxLen;omega) (size_madeCells _ _);have HB0:Hid (Below w1.heap.size w1 (w1.alloc (.cells (madeCells (Value.agg #[zI 0,zI 0,zI 0,zI 0,zI 0,zI 0,zI 0,zI 0,zI 0,zI 0,zI 0,zI 0,zI 0]).cells (N*13)) 72))):=(Below.refl _ _).alloc (Nat.le_refl _) _;generalize (w1.alloc (.cells (madeCells (Value.agg #[zI 0,zI 0,zI 0,zI 0,zI 0,zI 0,zI 0,zI 0,zI 0,zI 0,zI 0,zI 0,zI 0]).cells (N*13)) 72))=W0 at *;go_wp2_with fail;clear hmk;go_loopw [7,26] (fun u z wr=>∃ (k:Nat) (U:Value),k≤N∧z=zI (k:Int)∧U=u∧book.Le wr w1.heap.size U ((o.take k).map evOf)∧(∀ j,j<k→DecOk (o.getD j []))∧Below w1.heap.size w1 wr) (fun _ z _=>N - (intOf z).toNat)
  case atStart=>exact ⟨0,_,Nat.zero_le _,rfl,rfl,HL0.o,(fun j hj=>absurd hj (Nat.not_lt_zero _)),HB0.o⟩
  case round=>
   obtain ⟨k,U,hk,rfl,hU,hle,hok,hb⟩:=hrel;subst hU;have HLE:Hid (book.Le wr w1.heap.size U ((o.take k).map evOf)):=hle;have HOK:Hid (∀ j,j<k→DecOk (o.getD j [])):=hok;have HBR:Hid (Below w1.heap.size w1 wr):=hb;clear HL0 HB0;by_cases hlt:k<N
   ·have hdl:decide ((k:Int)<(N:Int))=true:=by simp;omega
    have hko:k<o.length:=by rw [HOL.o];exact hlt
    obtain ⟨g,off,rfl,_,hgl,hgc⟩:=HRD.o.2.resolve_left (by omega);obtain ⟨s,h1,h2,h3,_⟩:=hgc k hlt;have ck:wr.cell? ⟨g,off+k,none⟩=some (.slice s.a s.n s.c):=(hb.cell (p:=⟨g,off+k,none⟩) hgl).trans h1;have HDE:Hid (Calls Tryz.prog 36 #[.slice s.a s.n s.c] wr fun e w'=>book.DecGot wr (o.getD k []) e w'):=book.kdec wr s.a s.n s.c _ (h2.below hb) h3.2.2 h3.2.1 (by have:=h3.1;omega) (fun y hy=>HW.o y (rep_in HRI.o _ (getD_inR hko) y hy));clear hle hok hb hgc h1 h2 h3;generalize s.a=sa at *;generalize s.n=sn at *;generalize s.c=sc at *;have HTK:Hid ((o.take k).map evOf++[evOf (o.getD k [])]=(o.take (k+1)).map evOf):=take_mapE o k hko;have hzl:((o.take k).map evOf).length≤1000000:=by rw [List.length_map,List.length_take];omega
    generalize (o.take k).map evOf=Z at *;go_wp2_with fail;refine HDE.o.mono ?_;rintro e w2 ⟨v,f2,rfl,hd,hb2⟩;unfold book.Ev.v;have HX:Hid (Blk (w2.alloc (.cells #[zI v.kd,zI v.me,zI v.mo,zI v.id,zI v.te,zI v.de,zI v.fe,zI v.pr,zI v.ch,zI v.un,zI v.tg,zI v.ow,zI v.bp] 72)) w2.heap.size #[zI v.kd,zI v.me,zI v.mo,zI v.id,zI v.te,zI v.de,zI v.fe,zI v.pr,zI v.ch,zI v.un,zI v.tg,zI v.ow,zI v.bp] 72):=Blk.new w2 _ _;have HBX:Hid (Below w1.heap.size w1 (w2.alloc (.cells #[zI v.kd,zI v.me,zI v.mo,zI v.id,zI v.te,zI v.de,zI v.fe,zI v.pr,zI v.ch,zI v.un,zI v.tg,zI v.ow,zI v.bp] 72))):=(HBR.o.trans (hb2.mono HBR.o.size)).alloc (Nat.le_trans HBR.o.size hb2.size) _;have HLX:Hid (book.Le (w2.alloc (.cells #[zI v.kd,zI v.me,zI v.mo,zI v.id,zI v.te,zI v.de,zI v.fe,zI v.pr,zI v.ch,zI v.un,zI v.tg,zI v.ow,zI v.bp] 72)) w1.heap.size U Z):=(HLE.o.next hb2).alloc _;have HD:Hid (DecIs (o.getD k []) v f2):=hd;have hsx:w2.heap.size<(w2.alloc (.cells #[zI v.kd,zI v.me,zI v.mo,zI v.id,zI v.te,zI v.de,zI v.fe,zI v.pr,zI v.ch,zI v.un,zI v.tg,zI v.ow,zI v.bp] 72)).heap.size:=(Blk.new w2 #[zI v.kd,zI v.me,zI v.mo,zI v.id,zI v.te,zI v.de,zI v.fe,zI v.pr,zI v.ch,zI v.un,zI v.tg,zI v.ow,zI v.bp] 72).lt;clear hd hb2 HDE HLE HBR ck;go_upto_region 9 with fail
    generalize (w2.alloc (.cells #[zI v.kd,zI v.me,zI v.mo,zI v.id,zI v.te,zI v.de,zI v.fe,zI v.pr,zI v.ch,zI v.un,zI v.tg,zI v.ow,zI v.bp] 72))=W3 at *;generalize w2.heap.size=gx at *;by_cases h2:f2=0
    ·subst h2;obtain ⟨hdk,hve⟩:=dec_ok HD.o;have HV:Hid (evOf (o.getD k [])=v):=hve.symm
     have HOK2:Hid (∀ j,j<k+1→DecOk (o.getD j [])):=fun j hj=>by
      by_cases e:j=k
      ·subst e;exact hdk
      ·exact HOK.o j (by omega)
     have HBK:Hid (Blk (W3.alloc (.cells #[zI v.kd,zI v.me,zI v.mo,zI v.id,zI v.te,zI v.de,zI v.fe,zI v.pr,zI v.ch,zI v.un,zI v.tg,zI v.ow,zI v.bp] 72)) W3.heap.size v.cl.toArray 72):=Blk.new W3 _ _;have HLA:Hid (book.Le (W3.alloc (.cells #[zI v.kd,zI v.me,zI v.mo,zI v.id,zI v.te,zI v.de,zI v.fe,zI v.pr,zI v.ch,zI v.un,zI v.tg,zI v.ow,zI v.bp] 72)) w1.heap.size U Z):=HLX.o.alloc _;have HBA:Hid (Below w1.heap.size w1 (W3.alloc (.cells #[zI v.kd,zI v.me,zI v.mo,zI v.id,zI v.te,zI v.de,zI v.fe,zI v.pr,zI v.ch,zI v.un,zI v.tg,zI v.ow,zI v.bp] 72))):=HBX.o.alloc HBX.o.size _;clear hdk hve HD HOK
     go_wp2_with (first
      | (refine zqw rfl rfl rfl HX zqu72 ?_)
      | (at_builtin;refine book.wp_ev rfl _ _ rfl w1.heap.size W3.heap.size U Z v rfl rfl HLA.o HBK.o hzl HBA.o.size ?_)
      | fail)
     intro v3 w3 h3 hg3;have HB3:Hid (Below w1.heap.size w1 w3):=tar.own_bel HLA.o hg3 HBA.o (Nat.le_refl _) HBA.o.size;have H3:Hid (book.Le w3 w1.heap.size v3 (Z++[v])):=h3;clear h3 hg3 HLA HBA HBK HX HLX HBX;go_wp2_with fail;go_roundw
     case rel=>exact ⟨k+1,v3,by omega,by go_num,by first | rfl | trivial,by rw [← HTK.o,HV.o];exact H3.o,HOK2.o,HB3.o⟩
     case measure=>simp [intOf];omega
    ·have d2:(f2 != 0)=true:=by simpa using h2
     have HK:Hid (KeptIs c [] f2):=⟨o,x,0,HRI.o,.inr (.inr ⟨rfl,h2,rfl,k,hko,HOK.o,by have:=dec_no HD.o h2;rw [← this];exact HD.o⟩)⟩
     have HBF:Hid (Below w.heap.size w W3):=HB1.o.trans (HBX.o.mono HB1.o.size);clear h2 HD HOK;go_wp2_with fail;go_ret2;exact ⟨none,0,0,[],f2,rfl,HK.o,ecame_nil _,Nat.zero_le _,HBF.o⟩
   ·obtain rfl:k=N:=by omega
    have hdl:decide ((k:Int)<(k:Int))=false:=by simp
    have HTA:Hid (o.take k=o):=List.take_of_length_le (by rw [HOL.o];exact Nat.le_refl _);have HK:Hid (KeptIs c (o.map evOf) 0):=⟨o,x,0,HRI.o,.inr (.inl ⟨rfl,fun j hj=>HOK.o j (by rw [← HOL.o];exact hj),rfl,rfl⟩)⟩
    have hwf:∀ v∈o.map evOf,book.wf13 v:=fun v hv=>by
     obtain ⟨z,hz,rfl⟩:=List.mem_map.1 hv;obtain ⟨j,hj,rfl⟩:=List.mem_iff_getElem.1 hz;have e:o.getD j []=o[j]:=by simp [List.getD,List.getElem?_eq_getElem hj]
     have:=HOK.o j (by rw [← HOL.o];exact hj);rw [e] at this;exact book.wf_may this.2
    have hl2:=HLE.o;rw [HTA.o] at hl2;obtain ⟨pz,cz,hvz,hcz⟩:=hl2.came (by rw [List.length_map,HOL.o];omega) hwf;have hlen:(o.map evOf).length=k:=by rw [List.length_map];exact HOL.o
    rw [hlen] at hvz hcz;subst hvz;have HCZ:Hid (ECame wr pz k cz (o.map evOf)):=hcz;have HBF:Hid (Below w.heap.size w wr):=HB1.o.trans (HBR.o.mono HB1.o.size);clear hle hok hb hl2 hcz hwf hlen HLE HOK HTA;go_wp2_with fail;go_ret2;exact ⟨pz,k,cz,_,0,rfl,HK.o,HCZ.o,hol,HBF.o⟩
 ·have d0:(f != 0)=true:=by simpa using h0
  have HK:Hid (KeptIs c [] f):=⟨o,x,f,HRI.o,.inl ⟨h0,rfl,rfl⟩⟩
  clear h0;go_wp2_with fail;go_ret2;exact ⟨none,0,0,[],f,rfl,HK.o,ecame_nil _,Nat.zero_le _,HB1.o⟩
end vnd
namespace book
open Go.RowKit
def FindPost (w:World) (l:List Cu) (me:Int) (e:Ending) (w':World):Prop:=∃ x f,e = .returned (.tuple #[zI x,zI f])∧FindIs l me x f∧Below w.heap.size w w'
def findV (B:Nat):Value:= .func (.func 84) #[] #[.pointer (some ⟨B,0,none⟩)]
theorem asked_any (B:Nat) (me xm xr xn xo xb xf:Int) (dp:Option Addr) (dn dc:Nat) (sp:Option Addr) (sn sc:Nat) (W:World) (hc:W.cell? ⟨B,0,none⟩=some (zI me)) (hB:B<W.heap.size) :
  Calls Tryz.prog 84 #[.agg #[zI xm,zI xr,zI xn,zI xo,zI xb,zI xf,.slice dp dn dc,.slice sp sn sc],.pointer (some ⟨B,0,none⟩)] W fun e w'=>e = .returned (.bool (xm == me))∧Below W.heap.size W w':=by
 have hc2:(W.alloc (.cells #[zI xm,zI xr,zI xn,zI xo,zI xb,zI xf,.slice dp dn dc,.slice sp sn sc] 54)).cell? ⟨B,0,none⟩=some (zI me):=by rw [World.cell?_alloc_lt W _ _ hB];exact hc
 have HB:Hid (Below W.heap.size W (W.alloc (.cells #[zI xm,zI xr,zI xn,zI xo,zI xb,zI xf,.slice dp dn dc,.slice sp sn sc] 54))):=(Below.refl _ _).alloc (Nat.le_refl _) _;clear hc hB;go_enter Tryz.func84,Tryz.ntmps84;go_wp2_with fail;go_ret;exact ⟨rfl,HB.o⟩
theorem index_cust (B n cap:Nat) (me:Int) (a:Option Addr) (l:List Cu) (w:World) (hc:w.cell? ⟨B,0,none⟩=some (zI me)) (hr:RowC w a n l) (hn:n≤2000000) :
  Calls Tryz.prog 83 #[.slice a n cap,findV B] w fun e w'=>∃ x,e = .returned (zI x)∧FoundIs l me x∧Below w.heap.size w w':=by
 have hB:=World.block_lt_of_cell? w _ hc
 have HC:Hid (∀ wr,Below w.heap.size w wr→∀ (xm xr xn xo xb xf:Int) (dp:Option Addr) (dn dc:Nat) (sp:Option Addr) (sn sc:Nat),Calls Tryz.prog 84 #[.agg #[zI xm,zI xr,zI xn,zI xo,zI xb,zI xf,.slice dp dn dc,.slice sp sn sc],.pointer (some ⟨B,0,none⟩)] wr fun e w'=>e = .returned (.bool (xm == me))∧Below wr.heap.size wr w'):=fun wr hb xm xr xn xo xb xf dp dn dc sp sn sc=>
  asked_any B me xm xr xn xo xb xf dp dn dc sp sn sc wr ((hb.cell (p:=⟨B,0,none⟩) hB).trans hc) (Nat.lt_of_lt_of_le hB hb.size)
 have HR:Hid (RowC w a n l):=hr;have HL:Hid (l.length=n):=hr.1;clear hc hB hr;unfold findV;go_enter Tryz.func83,Tryz.ntmps83;go_wp2_with fail;go_loopw [8] (fun i wr=>∃ k:Nat,k≤n∧i=zI (k:Int)∧(∀ j,j<k→(l.getD j cu0).me≠me)∧Below w.heap.size w wr) (fun i _=>n - (intOf i).toNat)
 case atStart=>exact ⟨0,Nat.zero_le _,rfl,(fun j hj=>absurd hj (Nat.not_lt_zero _)),Below.refl _ _⟩
 case round=>
  obtain ⟨k,hk,rfl,hal,hb⟩:=hrel;have HA:Hid (∀ j,j<k→(l.getD j cu0).me≠me):=hal;have HB:Hid (Below w.heap.size w wr):=hb;clear hal hb;by_cases hlt:k<n
  ·obtain ⟨b2,o2,rfl,l2,hc2⟩:=HR.o.2.resolve_left (by omega);have hce:∀ j,j<8→wr.cell? ⟨b2,o2+k*8+j,none⟩=(l.getD k cu0).cs[j]?:=fun j hj=>(HB.o.cell (p:=⟨b2,o2+k*8+j,none⟩) l2).trans (hc2 k j hlt hj)
   have HME:Hid (∀ z,z=(l.getD k cu0).me→(z=me→FoundIs l me (k:Int))∧(z≠me→∀ j,j<k+1→(l.getD j cu0).me≠me)):=fun z hz=>⟨fun e=> .inl ⟨k,by rw [HL.o];exact hlt,by rw [← hz];exact e,HA.o,rfl⟩,fun e j hj=>by
    by_cases q:j=k
    ·subst q;rw [← hz];exact e
    ·exact HA.o j (by omega)⟩
   clear hc2 l2;obtain ⟨⟨xm,xr,xn,xo,xb,xf,dp,dn,dc,sp,sn,sc⟩,hx⟩:∃ x,x=l.getD k cu0:=⟨_,rfl⟩
   have HMX:=HME.o xm (by rw [← hx]);have HY:Hid (xm=me→FoundIs l me (k:Int)):=HMX.1;have HNO:Hid (xm≠me→∀ j,j<k+1→(l.getD j cu0).me≠me):=HMX.2;rw [← hx] at hce;clear hx HME HMX;have c0:wr.cell? ⟨b2,o2+k*8,none⟩=some (zI xm):=hce 0 (by decide);have c1:wr.cell? ⟨b2,o2+k*8+1,none⟩=some (zI xr):=hce 1 (by decide);have c2:wr.cell? ⟨b2,o2+k*8+2,none⟩=some (zI xn):=hce 2 (by decide);have c3:wr.cell? ⟨b2,o2+k*8+3,none⟩=some (zI xo):=hce 3 (by decide);have c4:wr.cell? ⟨b2,o2+k*8+4,none⟩=some (zI xb):=hce 4 (by decide);have c5:wr.cell? ⟨b2,o2+k*8+5,none⟩=some (zI xf):=hce 5 (by decide);have c6:wr.cell? ⟨b2,o2+k*8+6,none⟩=some (.slice dp dn dc):=hce 6 (by decide);have c7:wr.cell? ⟨b2,o2+k*8+7,none⟩=some (.slice sp sn sc):=hce 7 (by decide);clear hce;have hcall:=HC.o wr HB.o xm xr xn xo xb xf dp dn dc sp sn sc;clear HC;by_cases he:xm=me
   ·have HF:Hid (FoundIs l me (k:Int)):=HY.o he;rw [show (xm == me)=true by simpa using he] at hcall;have HCL:Hid (Calls Tryz.prog 84 #[.agg #[zI xm,zI xr,zI xn,zI xo,zI xb,zI xf,.slice dp dn dc,.slice sp sn sc],.pointer (some ⟨B,0,none⟩)] wr fun e w'=>e = .returned (.bool true)∧Below wr.heap.size wr w'):=hcall;clear hcall he;go_wp2_with fail;refine HCL.o.mono ?_;rintro e w' ⟨rfl,hb'⟩;have HB':Hid (Below w.heap.size w w'):=bel_step HB.o hb';clear hb' c0 c1 c2 c3 c4 c5 c6 c7;go_wp2_with fail;go_ret;exact ⟨(k:Int),rfl,HF.o,HB'.o⟩
   ·have HF:Hid (∀ j,j<k+1→(l.getD j cu0).me≠me):=HNO.o he;rw [show (xm == me)=false by simpa using he] at hcall;have HCL:Hid (Calls Tryz.prog 84 #[.agg #[zI xm,zI xr,zI xn,zI xo,zI xb,zI xf,.slice dp dn dc,.slice sp sn sc],.pointer (some ⟨B,0,none⟩)] wr fun e w'=>e = .returned (.bool false)∧Below wr.heap.size wr w'):=hcall;clear hcall he;go_wp2_with fail;refine HCL.o.mono ?_;rintro e w' ⟨rfl,hb'⟩;have HB':Hid (Below w.heap.size w w'):=bel_step HB.o hb';clear hb' c0 c1 c2 c3 c4 c5 c6 c7;go_wp2_with fail;go_roundw
    case rel=>exact ⟨k+1,by omega,by go_num,HF.o,HB'.o⟩
    case measure=>simp [intOf];omega
  ·obtain rfl:k=n:=by omega
   have HFA:Hid (FoundIs l me (-1)):= .inr ⟨fun j hj=>HA.o j (by rw [← HL.o];exact hj),rfl⟩;go_wp2_with fail;go_ret;exact ⟨-1,rfl,HFA.o,HB.o⟩
theorem pfind (w:World) (p:Option Addr) (n cap:Nat) (l:List Cu) (me:Int) (hr:RowC w p n l) (hn:n≤2000000):Calls Tryz.prog 51 #[.agg #[.slice p n cap],zI me] w fun e w'=>FindPost w l me e w':=by
 have hmf:∀ (fn:Fn) (first cap:Array Value) (w:World),(Instr.makeFunc fn first cap).run Tryz.prog w = .ok (.func fn first cap) w:=fun _ _ _ _=>rfl;obtain ⟨W1,HWW,HK1,HM1,HB1,-⟩:=sh2 w #[.slice p n cap] 46 #[zI me] 3;have HR:Hid (RowC w p n l):=hr;have HN:Hid (n≤2000000):=hn;clear hr hn;go_enter Tryz.func51,Tryz.ntmps51;go_upto_region 1 with fail
 rw [HWW.o];clear HWW;have c0:W1.cell? ⟨w.heap.size,0,none⟩=some (.slice p n cap):=HK1.o.cell 0;have hI:=index_cust (w.heap.size+1) n cap me p l W1 (HM1.o.cell 0) (HR.o.below HB1.o) HN.o;unfold findV at hI;have HI:Hid (Calls Tryz.prog 83 #[.slice p n cap,.func (.func 84) #[] #[.pointer (some ⟨w.heap.size+1,0,none⟩)]] W1 fun e w'=>∃ x,e = .returned (zI x)∧FoundIs l me x∧Below W1.heap.size W1 w'):=hI;clear hI HK1 HM1 HR HN;go_wp2_with fail;refine HI.o.mono ?_;rintro e w' ⟨x,rfl,hx,hb⟩;have HB':Hid (Below w.heap.size w w'):=bel_step HB1.o hb;clear hb HI HB1 c0;by_cases hneg:x<0
 ·have HF:Hid (FindIs l me 0 18):=by
   rcases hx with ⟨k,_,_,_,e⟩ | ⟨h,_⟩
   ·omega
   ·exact .inr ⟨h,rfl,rfl⟩
  clear hx;go_wp2_with fail;go_ret2;exact ⟨0,18,rfl,HF.o,HB'.o⟩
 ·have HF:Hid (FindIs l me x 0):=by
   rcases hx with ⟨k,h1,h2,h3,e⟩ | ⟨h,e⟩
   ·exact .inl ⟨k,h1,h2,h3,e,rfl⟩
   ·omega
  clear hx;go_wp2_with fail;go_ret2;exact ⟨x,0,rfl,HF.o,HB'.o⟩
end book
namespace vnd
open disk (RepIs)
open book (Ev ev0 EMay evL evOf DecIs Cm cm0 So so0 BookIs Sees ECame FirstAt NoneAt)
open acc (Ac Tm Bi TCame ACame)
open cell (Wr RowU)
open Go.RowKit
def CusP (w:World) (bk:List Cm) (me:Int) (e:Ending) (w':World):Prop:=Below w.heap.size w w'∧((e = .returned (.tuple #[.agg #[zI 0,zI 0,zI 0,zI 0,zI 0,zI 0,zS,zS],zI 18])∧NoneAt bk me) ∨
 ∃ k dp dn dc sp sn sc,e = .returned (.tuple #[.agg #[zI (bk.getD k cm0).a.me,zI (bk.getD k cm0).a.rv,zI (bk.getD k cm0).a.nx,zI (bk.getD k cm0).a.mo,zI (bk.getD k cm0).a.bo,zI (bk.getD k cm0).a.fr,.slice dp dn dc,.slice sp sn sc],zI 0])∧FirstAt bk me k∧k<bk.length∧tar.Came w dp dn dc (bk.getD k cm0).a.ds∧book.RowS w sp sn (bk.getD k cm0).so)
theorem find_first {xs:List book.Cu} {bk:List Cm} {me x f:Int} (hl:xs.length=bk.length) (hn:∀ i,i<xs.length→book.Nums (xs.getD i book.cu0) (bk.getD i cm0).a) (h:book.FindIs xs me x f):(f=18∧NoneAt bk me)∨(∃ k:Nat,x=(k:Int)∧f=0∧FirstAt bk me k∧k<xs.length):=by
 rcases h with ⟨k,h1,h2,h3,h4,h5⟩ | ⟨h1,h2,h3⟩
 ·refine .inr ⟨k,h4,h5,⟨by rw [← hl];exact h1,by rw [← (hn k h1).1];exact h2,fun j hj=>by rw [← (hn j (by omega)).1];exact h3 j hj⟩,h1⟩
 ·exact .inl ⟨h3,fun j hj=>by rw [← (hn j (by rw [hl];exact hj)).1];exact h1 j (by rw [hl];exact hj)⟩
theorem pcust (p2:Option Addr) (m2 c2:Nat) (xs:List book.Cu) (bk:List Cm) (a:Option Addr) (n cap:Nat) (q me:Int) (w:World) (h:Sees w p2 m2 xs bk) (hm:m2≤120):Calls Tryz.prog 24 #[.agg #[.slice p2 m2 c2,.slice a n cap,zI q],zI me] w fun e w'=>CusP w bk me e w':=by
 have HSE:Hid (Sees w p2 m2 xs bk):=h;clear h;obtain ⟨W0,HWW,H0s,H0r,H0B,hs0⟩:=sh2 w #[.slice p2 m2 c2,.slice a n cap,zI q] 87 #[zI 0,zI 0,zI 0,zI 0,zI 0,zI 0,zS,zS] 54;go_enter Tryz.func24,Tryz.ntmps24;go_upto_region 1 with fail
 rw [HWW.o];clear HWW;have HFI:Hid (Calls Tryz.prog 51 #[.agg #[.slice p2 m2 c2],zI me] W0 fun e w'=>book.FindPost W0 xs me e w'):=book.pfind W0 p2 m2 c2 xs me (HSE.o.below H0B.o).row (by omega);have qs0:W0.cell? ⟨w.heap.size,0,none⟩=some (.slice p2 m2 c2):=H0s.o.cell 0
 go_wp2_with (first
  | (refine zqw rfl rfl rfl H0s zqu87 ?_)
  | (refine zqw rfl rfl rfl H0r zqu54 ?_)
  | fail)
 refine HFI.o.mono ?_;rintro e w1 ⟨x,f,rfl,hfi,hb1⟩;have H1s:=shN H0s hb1;have H1r:=shN H0r hb1;have H1B:=shB H0B hb1;have hsw1:W0.heap.size≤w1.heap.size:=hb1.size;clear hb1 H0s H0r H0B;clear qs0;have hff:=find_first HSE.o.len HSE.o.num hfi;clear hfi HFI;rcases hff with ⟨rfl,hnone⟩ | ⟨k,rfl,rfl,hfirst,hkx⟩
 ·have HNO:Hid (NoneAt bk me):=hnone;clear hnone
  go_wp2_with (first
   | (refine zql rfl rfl rfl rfl zqu54 (by simp [Value.oneCell']) H1r rfl ?_)
   | (refine zqw rfl rfl rfl H1s zqu87 ?_)
   | (refine zqw rfl rfl rfl H1r zqu54 ?_)
   | fail)
  intro W2 hU;have H2s:=shK hU H1s (by omega);have H2r:Hid (Blk W2 (w.heap.size+1) #[zI 0,zI 0,zI 0,zI 0,zI 0,zI 0,zS,zS] 54):=hU.blk;have H2B:=shV hU H1B (by omega);have hsW2:W2.heap.size=w1.heap.size:=hU.size;clear hU H1s H1r H1B;have Rr0:Hid (W2.cell? ⟨w.heap.size+1,0,none⟩=some (zI 0)):=H2r.o.cell 0;have Rr1:Hid (W2.cell? ⟨w.heap.size+1,1,none⟩=some (zI 0)):=H2r.o.cell 1;have Rr2:Hid (W2.cell? ⟨w.heap.size+1,2,none⟩=some (zI 0)):=H2r.o.cell 2;have Rr3:Hid (W2.cell? ⟨w.heap.size+1,3,none⟩=some (zI 0)):=H2r.o.cell 3;have Rr4:Hid (W2.cell? ⟨w.heap.size+1,4,none⟩=some (zI 0)):=H2r.o.cell 4;have Rr5:Hid (W2.cell? ⟨w.heap.size+1,5,none⟩=some (zI 0)):=H2r.o.cell 5;have Rr6:Hid (W2.cell? ⟨w.heap.size+1,6,none⟩=some (zS)):=H2r.o.cell 6;have Rr7:Hid (W2.cell? ⟨w.heap.size+1,7,none⟩=some (zS)):=H2r.o.cell 7;go_wp2_with fail;exact bodyPost_ret (v:= .tuple #[.agg #[zI 0,zI 0,zI 0,zI 0,zI 0,zI 0,zS,zS],zI 18]) (by simp [results,Tryz.results24,Rr0.o,Rr1.o,Rr2.o,Rr3.o,Rr4.o,Rr5.o,Rr6.o,Rr7.o,go_sem]) rfl ⟨H2B.o,.inl ⟨rfl,HNO.o⟩⟩
 ·have HFT:Hid (FirstAt bk me k):=hfirst;have HSW:Hid (Sees w1 p2 m2 xs bk):=HSE.o.below H1B.o;have HKB:Hid (k<bk.length):=by rw [← HSE.o.len];exact hkx
  have HDS:Hid (tar.Came w (xs.getD k book.cu0).dp (xs.getD k book.cu0).dn (xs.getD k book.cu0).dc (bk.getD k cm0).a.ds∧book.RowS w (xs.getD k book.cu0).sp (xs.getD k book.cu0).sn (bk.getD k cm0).so):=⟨HSE.o.ds k hkx,HSE.o.so k hkx⟩
  obtain ⟨cb,co,hpp,hcl,hcc⟩:∃ b off,p2=some ⟨b,off,none⟩∧b<w1.heap.size∧∀ i j,i<m2→j<8→w1.cell? ⟨b,off+i*8+j,none⟩=(xs.getD i book.cu0).cs[j]?:=by
   rcases HSW.o.row.2 with h | h
   ·have:=HSW.o.row.1;omega
   ·exact h
  subst hpp;have hkm:k<m2:=by have:=HSW.o.row.1;omega
  have hnm:=HSW.o.num k hkx;have hds:=HSW.o.ds k hkx;have y0:w1.cell? ⟨cb,co+k*8,none⟩=some (zI (bk.getD k cm0).a.me):=(hcc k 0 hkm (by decide)).trans (by rw [← hnm.1];rfl);have y1:w1.cell? ⟨cb,co+k*8+1,none⟩=some (zI (bk.getD k cm0).a.rv):=(hcc k 1 hkm (by decide)).trans (by rw [← hnm.2.1];rfl);have y2:w1.cell? ⟨cb,co+k*8+2,none⟩=some (zI (bk.getD k cm0).a.nx):=(hcc k 2 hkm (by decide)).trans (by rw [← hnm.2.2.1];rfl);have y3:w1.cell? ⟨cb,co+k*8+3,none⟩=some (zI (bk.getD k cm0).a.mo):=(hcc k 3 hkm (by decide)).trans (by rw [← hnm.2.2.2.1];rfl);have y4:w1.cell? ⟨cb,co+k*8+4,none⟩=some (zI (bk.getD k cm0).a.bo):=(hcc k 4 hkm (by decide)).trans (by rw [← hnm.2.2.2.2.1];rfl);have y5:w1.cell? ⟨cb,co+k*8+5,none⟩=some (zI (bk.getD k cm0).a.fr):=(hcc k 5 hkm (by decide)).trans (by rw [← hnm.2.2.2.2.2];rfl);have y6:w1.cell? ⟨cb,co+k*8+6,none⟩=some (.slice (xs.getD k book.cu0).dp (xs.getD k book.cu0).dn (xs.getD k book.cu0).dc):=hcc k 6 hkm (by decide);have y7:w1.cell? ⟨cb,co+k*8+7,none⟩=some (.slice (xs.getD k book.cu0).sp (xs.getD k book.cu0).sn (xs.getD k book.cu0).sc):=hcc k 7 hkm (by decide);clear hcc hnm;generalize (xs.getD k book.cu0).dp=dp at *;generalize (xs.getD k book.cu0).dn=dn at *;generalize (xs.getD k book.cu0).dc=dc at *;generalize hy:(bk.getD k cm0).a=y at *;have HY:Hid ((bk.getD k cm0).a=y):=hy;clear hy;generalize (xs.getD k book.cu0).sp=sp at *;generalize (xs.getD k book.cu0).sn=sn at *;generalize (xs.getD k book.cu0).sc=sc at *;clear hds hfirst hkx HSW HSE;have qs0:w1.cell? ⟨w.heap.size,0,none⟩=some (.slice (some ⟨cb,co,none⟩) m2 c2):=H1s.o.cell 0
  go_wp2_with (first
   | (refine zql rfl rfl rfl rfl zqu54 (by simp [Value.oneCell']) H1r rfl ?_)
   | (refine zqw rfl rfl rfl H1s zqu87 ?_)
   | (refine zqw rfl rfl rfl H1r zqu54 ?_)
   | fail)
  intro W2 hU;have H2s:=shK hU H1s (by omega);have H2r:Hid (Blk W2 (w.heap.size+1) #[zI y.me,zI y.rv,zI y.nx,zI y.mo,zI y.bo,zI y.fr,.slice dp dn dc,.slice sp sn sc] 54):=hU.blk;have H2B:=shV hU H1B (by omega);have hsW2:W2.heap.size=w1.heap.size:=hU.size;clear hU H1s H1r H1B;clear qs0;obtain ⟨Rr0,Rr1,Rr2,Rr3,Rr4,Rr5,Rr6,Rr7⟩:=shc8 H2r;go_wp2_with fail;exact bodyPost_ret (v:= .tuple #[.agg #[zI y.me,zI y.rv,zI y.nx,zI y.mo,zI y.bo,zI y.fr,.slice dp dn dc,.slice sp sn sc],zI 0]) (by simp [results,Tryz.results24,Rr0.o,Rr1.o,Rr2.o,Rr3.o,Rr4.o,Rr5.o,Rr6.o,Rr7.o,go_sem]) rfl ⟨H2B.o,.inr ⟨k,dp,dn,dc,sp,sn,sc,by rw [HY.o],HFT.o,HKB.o,by rw [HY.o];exact HDS.o.1,HDS.o.2⟩⟩
end vnd
namespace token
open words
open Go.RowKit
theorem zero_cat (n:Nat) (D:ByteArray):(⟨#[48]⟩:ByteArray)++((⟨(List.replicate n 48).toArray⟩:ByteArray)++D)=(⟨(List.replicate (n+1) 48).toArray⟩:ByteArray)++D:=by
 apply bytes_ext;simp [List.replicate_succ]
theorem zero_size (n:Nat) (D:ByteArray):((⟨(List.replicate n 48).toArray⟩:ByteArray)++D).size=n+D.size:=by
 rw [ByteArray.size_append]
 congr 1
 show (List.replicate n (48:UInt8)).toArray.size=n;simp
theorem zero_nil (D:ByteArray):(⟨(List.replicate 0 48).toArray⟩:ByteArray)++D=D:=by
 apply bytes_ext;simp
theorem formatted_ok (k:Tok) (w:World) (hk:k.ok) :
  Calls Tryz.prog 31 #[k.v] w fun e w'=>e = .returned (.tuple #[.string (fmtB (97*k.num)),zI 0])∧Below w.heap.size w w':=by
 have HF:Hid (∀ W,Calls Tryz.prog 57 #[.agg #[zI (k.c:Int),zI (k.i:Int),zI (k.a:Int),zI (k.t:Int)]] W fun e w'=>e = .returned (zI 0)∧Below W.heap.size W w'):=fun W=>by
  have:=fault_any k.c k.i k.a k.t W
  rwa [flaw_tok.2 hk] at this
 have HP:Hid (∀ W,Calls Tryz.prog 58 #[.agg #[zI (k.c:Int),zI (k.i:Int),zI (k.a:Int),zI (k.t:Int)]] W fun e w'=>NewPost W (k.num*97) e w'):=fun W=>number_any k W hk;have hnb:=num_bd hk;have hln:=dec_len20 (V:=k.num*97) (by omega);have hsz:=str_size (decL (k.num*97));have HS:Hid (∀ (n:Nat) W,Bg W n (k.num*97)→Calls Tryz.prog 59 #[.pointer (some ⟨n,0,none⟩)] W fun e w'=>e = .returned (.string (strOf (decL (k.num*97))))∧Below W.heap.size W w'):=fun n W hW=>string_any n _ W hW (len100 (Nat.lt_trans (show k.num*97<73786976294838206464 by omega) (by decide))) (by omega)
 have HX:Hid (∀ n:Nat,n+(strOf (decL (k.num*97))).size=20→(⟨(List.replicate n 48).toArray⟩:ByteArray)++strOf (decL (k.num*97))=fmtB (97*k.num)):=fun n hn=>by
  rw [← rep_list,pad_fmt _ _ (by rw [← hsz];exact hn),Nat.mul_comm]
 have HB:Hid (Below w.heap.size w (w.alloc (.cells #[zI (k.c:Int),zI (k.i:Int),zI (k.a:Int),zI (k.t:Int)] 96))):=bel_box _ _;have HK:Hid (Blk (w.alloc (.cells #[zI (k.c:Int),zI (k.i:Int),zI (k.a:Int),zI (k.t:Int)] 96)) w.heap.size #[zI (k.c:Int),zI (k.i:Int),zI (k.a:Int),zI (k.t:Int)] 96):=Blk.new _ _ _;rw [← hsz] at hln;clear hk hnb hsz;generalize strOf (decL (k.num*97))=D at *;unfold Tok.v;go_enter Tryz.func31,Tryz.ntmps31;go_wp2_with fail;refine (HF.o _).mono ?_;rintro e w1 ⟨rfl,hb1⟩;have HB1:=shB HB hb1;have hK:=HK.o.next hb1;have c0:=hK.cell 0;have c1:=hK.cell 1;have c2:=hK.cell 2;have c3:=hK.cell 3;clear hb1 HF HB HK hK;go_wp2_with fail;refine (HP.o _).mono ?_;rintro e w2 ⟨z,rfl,hz,hg2,hb2⟩;have HB2:=shB HB1 hb2;have HG:Hid (Bg w2 z (k.num*97)):=hg2;clear hb2 hg2 hz HP HB1 c0 c1 c2 c3;go_wp2_with fail;refine (HS.o _ _ HG.o).mono ?_;rintro e w3 ⟨rfl,hb3⟩;have HB3:=shB HB2 hb3;clear hb3 HB2 HG HS;go_wp2_with fail;go_loop [5] (fun v=>∃ n:Nat,n+D.size≤20∧v = .string ((⟨(List.replicate n 48).toArray⟩:ByteArray)++D)) (fun v=>20 - (match v with | .string s=>s.size | _=>0))
 case atStart=>exact ⟨0,by omega,by rw [zero_nil]⟩
 case round=>
  obtain ⟨n,hn,rfl⟩:=hrel;have hs:=zero_size n D;have HC:Hid ((⟨#[48]⟩:ByteArray)++((⟨(List.replicate n 48).toArray⟩:ByteArray)++D)=(⟨(List.replicate (n+1) 48).toArray⟩:ByteArray)++D):=zero_cat n D;have HN:Hid (n+D.size=20→(⟨(List.replicate n 48).toArray⟩:ByteArray)++D=fmtB (97*k.num)):=HX.o n;have HS1:Hid (((⟨(List.replicate (n+1) 48).toArray⟩:ByteArray)++D).size=n+1+D.size):=zero_size (n+1) D;by_cases hlt:n+D.size<20
  ·generalize (⟨(List.replicate n 48).toArray⟩:ByteArray)++D=Z at *;have hzs:(Z.size:Int)<20:=by omega
   have hzm:¬ 9223372036854775807<1+Z.size:=by omega
   have HH:Hid (n+1+D.size≤20):=(by omega:n+1+D.size≤20)
   have HSZ:Hid (Z.size=n+D.size):=hs;clear hs hn hln;go_wp2_with fail;go_round
   case rel=>exact ⟨n+1,HH.o,by rw [← HC.o]⟩
   case measure=>
    show 20 - ((⟨#[48]⟩:ByteArray)++Z).size<20 - Z.size;rw [HC.o,HS1.o,HSZ.o];omega
  ·have he:=HN.o (by omega);have HE:Hid ((⟨(List.replicate n 48).toArray⟩:ByteArray)++D=fmtB (97*k.num)):=he;clear he;generalize (⟨(List.replicate n 48).toArray⟩:ByteArray)++D=Z at *;have hzs:¬ (Z.size:Int)<20:=by omega
   clear hs hlt hn HC HS1 HN HX hln;go_wp2_with fail;refine bodyPost_ret (v:= .tuple #[.string Z,zI 0]) (by simp [results,Tryz.results31,go_sem]) rfl ⟨by rw [HE.o],HB3.o⟩
end token
namespace vnd
theorem kfm:KFm:=fun k W hk=>token.formatted_ok k W hk
end vnd
namespace cell
open Go.RowKit
theorem word_of {z:Int} (h:(Lit.int .u32 z).wf=true):0≤z∧z<4294967296:=by
 simp only [Lit.wf,Bool.and_eq_true,decide_eq_true_eq] at h;rw [show IntKind.u32.min=0 from by decide,show IntKind.u32.max=4294967295 from by decide] at h;omega
end cell
end Go.Proofs.YtnpblpbohcegoaaGreatDoor
