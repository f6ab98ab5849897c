import Derived.Test.YtnpblpbohcegoaaGreatDoorVVRry17
import Derived.Test.YtnpblpbohcegoaaGreatDoorVVRry18
set_option linter.unusedVariables false
set_option linter.unusedSimpArgs false
set_option maxHeartbeats 4000000
set_option maxRecDepth 100000
namespace Go.Proofs.YtnpblpbohcegoaaGreatDoor
namespace cell
open Go.RowKit
def fv (B:Nat):Value:= .func (.func 47) #[] #[.pointer (some ⟨B,0,none⟩)]
theorem astray_any (B n cc:Nat) (ca:Option Addr) (e0:Wr) (W:World) (hc:W.cell? ⟨B,0,none⟩=some (.slice ca n cc)) (hB:B<W.heap.size) (hn:n≤2048) :
  Calls Tryz.prog 47 #[.agg #[zI e0.p,.int .u32 e0.d],.pointer (some ⟨B,0,none⟩)] W fun e w'=>e = .returned (.bool (!inN n e0))∧Below W.heap.size W w':=by
 obtain ⟨p,d⟩:=e0;have hc2:(W.alloc (.cells #[zI p,.int .u32 d] 122)).cell? ⟨B,0,none⟩=some (.slice ca n cc):=by rw [World.cell?_alloc_lt W _ _ hB];exact hc
 have HB:Hid (Below W.heap.size W (W.alloc (.cells #[zI p,.int .u32 d] 122))):=(Below.refl _ _).alloc (Nat.le_refl _) _;clear hc hB;by_cases h0:p<0
 ·have e1:(!inN n ⟨p,d⟩)=true:=by simp [inN];omega
  rw [e1];clear e1;go_enter Tryz.func47,Tryz.ntmps47;go_wp2_with fail;go_ret;exact ⟨rfl,HB.o⟩
 ·by_cases h1:p<n
  ·have e1:(!inN n ⟨p,d⟩)=false:=by simp [inN];omega
   have h2:decide ((n:Int)≤p)=false:=by simp;omega
   rw [e1];clear e1;go_enter Tryz.func47,Tryz.ntmps47;go_wp2_with fail;go_ret;exact ⟨rfl,HB.o⟩
  ·have e1:(!inN n ⟨p,d⟩)=true:=by simp [inN];omega
   have h2:decide ((n:Int)≤p)=true:=by simp;omega
   rw [e1];clear e1;go_enter Tryz.func47,Tryz.ntmps47;go_wp2_with fail;go_ret;exact ⟨rfl,HB.o⟩
def IxPost (w:World) (n:Nat) (ls:List Wr) (e:Ending) (w':World):Prop:=
 ∃ r:Int,e = .returned (zI r)∧(allN n ls=true∧r=-1∨allN n ls=false∧0≤r)∧Below w.heap.size w w'
theorem index_any (B n cc m c2:Nat) (ca b:Option Addr) (ls:List Wr) (w:World) (hc:w.cell? ⟨B,0,none⟩=some (.slice ca n cc)) (hn:n≤2048) (hr:RowW w b m ls) (hm:m≤4096) :
  Calls Tryz.prog 82 #[.slice b m c2,fv B] w fun e w'=>IxPost w n ls e w':=by
 have hB:=World.block_lt_of_cell? w _ hc
 have HC:Hid (∀ wr,Below w.heap.size w wr→∀ e0:Wr,Calls Tryz.prog 47 #[.agg #[zI e0.p,.int .u32 e0.d],.pointer (some ⟨B,0,none⟩)] wr fun e w'=>e = .returned (.bool (!inN n e0))∧Below wr.heap.size wr w'):=fun wr hb e0=>
  astray_any B n cc ca e0 wr ((hb.cell (p:=⟨B,0,none⟩) hB).trans hc) (Nat.lt_of_lt_of_le hB hb.size) hn
 have HR:Hid (RowW w b m ls):=hr;have HL:Hid (ls.length=m):=hr.1;clear hc hB hr;unfold fv;go_enter Tryz.func82,Tryz.ntmps82;go_wp2_with fail;go_loopw [8] (fun i wr=>∃ k:Nat,k≤m∧i=zI (k:Int)∧allN n (ls.take k)=true∧Below w.heap.size w wr) (fun i _=>m - (intOf i).toNat)
 case atStart=>exact ⟨0,Nat.zero_le _,rfl,rfl,Below.refl _ _⟩
 case round=>
  obtain ⟨k,hk,rfl,hal,hb⟩:=hrel;have HA:Hid (allN n (ls.take k)=true):=hal;have HB:Hid (Below w.heap.size w wr):=hb;clear hal hb;by_cases hlt:k<m
  ·obtain ⟨b2,o2,rfl,l2,hc2⟩:=HR.o.at (by omega);have f1:wr.cell? ⟨b2,o2+k*2,none⟩=some (zI (ls.getD k wr0).p):=(HB.o.cell (p:=⟨b2,o2+k*2,none⟩) l2).trans (hc2 k hlt).1;have f2:wr.cell? ⟨b2,o2+k*2+1,none⟩=some (.int .u32 (ls.getD k wr0).d):=(HB.o.cell (p:=⟨b2,o2+k*2+1,none⟩) l2).trans (hc2 k hlt).2;have hcall:=HC.o wr HB.o (ls.getD k wr0);have HST:Hid (allN n (ls.take (k+1))=(allN n (ls.take k) && inN n (ls.getD k wr0))):=allN_step n ls k (by have:=HL.o;omega);have HFL:Hid (inN n (ls.getD k wr0)=false→allN n ls=false):=fun h=>allN_of_false (by have:=HL.o;omega) h;clear hc2 l2;cases hi:inN n (ls.getD k wr0) with
   | true=>
    rw [hi] at hcall HST;have HSA:Hid (allN n (ls.take (k+1))=true):=by show _=_;rw [HST.o,HA.o];rfl
    have HCL:Hid (Calls Tryz.prog 47 #[.agg #[zI (ls.getD k wr0).p,.int .u32 (ls.getD k wr0).d],.pointer (some ⟨B,0,none⟩)] wr fun e w'=>e = .returned (.bool false)∧Below wr.heap.size wr w'):=hcall;clear hcall HST HFL hi;generalize (ls.getD k wr0).p=p at *;generalize (ls.getD k wr0).d=d at *;go_wp2_with fail;refine HCL.o.mono ?_;rintro e w' ⟨rfl,hb'⟩;have HB':Hid (Below w.heap.size w w'):=bel_step HB.o hb';clear hb' f1 f2;go_wp2_with fail;go_roundw
    case rel=>exact ⟨k+1,by omega,by go_num,HSA.o,HB'.o⟩
    case measure=>simp [intOf];omega
   | false=>
    rw [hi] at hcall;have HFA:Hid (allN n ls=false):=HFL.o hi;have HCL:Hid (Calls Tryz.prog 47 #[.agg #[zI (ls.getD k wr0).p,.int .u32 (ls.getD k wr0).d],.pointer (some ⟨B,0,none⟩)] wr fun e w'=>e = .returned (.bool true)∧Below wr.heap.size wr w'):=hcall;clear hcall HST HFL hi;generalize (ls.getD k wr0).p=p at *;generalize (ls.getD k wr0).d=d at *;go_wp2_with fail;refine HCL.o.mono ?_;rintro e w' ⟨rfl,hb'⟩;have HB':Hid (Below w.heap.size w w'):=bel_step HB.o hb';clear hb' f1 f2;go_wp2_with fail;go_ret;exact ⟨(k:Int),rfl,.inr ⟨HFA.o,by omega⟩,HB'.o⟩
  ·obtain rfl:k=m:=by omega
   have HFA:Hid (allN n ls=true):=by have:=HA.o;rw [List.take_of_length_le (by have:=HL.o;omega)] at this;exact this
   go_wp2_with fail;go_ret;exact ⟨-1,rfl,.inl ⟨HFA.o,rfl⟩,HB.o⟩
theorem contains_any (B n cc m c2:Nat) (ca b:Option Addr) (ls:List Wr) (w:World) (hc:w.cell? ⟨B,0,none⟩=some (.slice ca n cc)) (hn:n≤2048) (hr:RowW w b m ls) (hm:m≤4096) :
  Calls Tryz.prog 48 #[.slice b m c2,fv B] w fun e w'=>e = .returned (.bool (!allN n ls))∧Below w.heap.size w w':=by
 have HI:Hid (Calls Tryz.prog 82 #[.slice b m c2,fv B] w fun e w'=>IxPost w n ls e w'):=index_any B n cc m c2 ca b ls w hc hn hr hm;clear hc hr;generalize fv B=V at *;go_enter Tryz.func48,Tryz.ntmps48;go_wp2_with fail;refine HI.o.mono ?_;rintro e w' ⟨r,rfl,hr,hb'⟩;have HB':Hid (Below w.heap.size w w'):=hb';clear hb';rcases hr with ⟨ha,rfl⟩ | ⟨ha,hr⟩
 ·have HA:Hid ((!allN n ls)=false):=by show _=_;rw [ha];rfl
  clear ha;go_wp2_with fail;go_ret;exact ⟨by rw [HA.o];rfl,HB'.o⟩
 ·have HA:Hid ((!allN n ls)=true):=by show _=_;rw [ha];rfl
  clear ha;have hd:decide ((0:Int)≤r)=true:=by simpa using hr
  go_wp2_with fail;go_ret;exact ⟨by rw [HA.o];rfl,HB'.o⟩
end cell
namespace disk
open Go.RowKit cell
def EPost (J:Nat→World→Prop) (c:List Int) (e:Ending) (w':World):Prop:=
 ∃ x f k,e = .returned (.tuple #[zI x,zI f])∧J k w'∧((¬ May c∧x=0∧f=1)∨(May c∧lenAt c (repD c).2<0∧x=0∧f=3)∨(May c∧lenAt c (repD c).2=0∧repD c=itD c k∧x=((repD c).2:Int)∧f=0))
theorem len_zero {c:List Int} {p:Nat} (h:c.getD p 0=0):lenAt c p=0:=by unfold lenAt;rw [if_pos (.inr h)]
theorem len_end {c:List Int} {p:Nat} (h:p=c.length):lenAt c p=0:=by unfold lenAt;rw [if_pos (.inl h)]
theorem len_bad {c:List Int} {p:Nat} (hp:p<c.length) (h0:c.getD p 0≠0) (h:64<c.getD p 0∨(c.length:Int)≤p+c.getD p 0):lenAt c p<0:=by
 unfold lenAt;rw [if_neg (by omega)];by_cases h1:64<c.getD p 0
 ·rw [if_pos h1];decide
 ·rw [if_neg h1,if_pos (by omega)];decide
theorem get_wd {c:List Int} (hw:∀ x∈c,0≤x∧x<4294967296) (p:Nat):0≤c.getD p 0∧c.getD p 0<4294967296:=by
 by_cases h:p<c.length
 ·have e:c.getD p 0=c[p]:=by simp [List.getD,h]
  rw [e];exact hw _ (List.getElem_mem h)
 ·have e:c.getD p 0=0:=by simp [List.getD,Nat.le_of_not_lt h]
  rw [e];decide
theorem rowU_part {W:World} {b o n:Nat} {c:List Int} (h:RowU W (some ⟨b,o,none⟩) n c) {p m:Nat} (hm:(c.getD p 0).toNat=m) (hp:p+m<n):RowU W (some ⟨b,o+(p+1),none⟩) m (recAt c p):=by
 refine ⟨rec_len hm (by rw [h.1];exact hp),.inr ⟨b,o+(p+1),rfl,fun i hi=>?_⟩⟩;obtain ⟨b',o',e,_,hc⟩:=h.at (by omega);cases e;rw [rec_at hm hi,show o+(p+1)+i=o+(p+1+i) by omega];exact hc (p+1+i) (by omega)
theorem each_any (F:Nat) (caps:Array Value) (J:Nat→World→Prop) (a:Option Addr) (n cap:Nat) (c:List Int) (w:World) (hJ:∀ k W,J k W→RowU W a n c) (h0:J 0 w) (hcap:n≤cap) (hw:∀ x∈c,0≤x∧x<4294967296) (hK:∀ args w,(callFunc F args).run Tryz.prog w = .ok (.enter F args) w)
  (hf:∀ (k p m b o:Nat) (W:World),J k W→(itD c k).2=p→itD c (k+1)=((itD c k).1++[recAt c p],p+m+1)→RowU W (some ⟨b,o,none⟩) m (recAt c p)→1≤m→m≤64→p≤2048→Calls Tryz.prog F (#[.slice (some ⟨b,o,none⟩) m m]++caps) W fun e w'=>e = .returned (.tuple #[])∧J (k+1) w') :
  Calls Tryz.prog 62 #[.slice a n cap,.func (.func F) #[] caps] w fun e w'=>EPost J c e w':=by
 have hcl:=(hJ 0 w h0).1;have H0:Hid (J 0 w):=h0;have HN:Hid (c.length=n):=hcl;by_cases hmay:1≤n∧n≤2048
 ·obtain ⟨b,o,rfl,_,_⟩:=(hJ 0 w h0).at (by omega);have HJ:Hid (∀ k W,J k W→RowU W (some ⟨b,o,none⟩) n c):=hJ
  have HCL:Hid (∀ k W,J k W→∀ j,j<n→W.cell? ⟨b,o+j,none⟩=some (.int .u32 (c.getD j 0))):=fun k W h j hj=>by
   obtain ⟨b',o',e,_,hc⟩:=(hJ k W h).at (by omega);cases e;exact hc j hj
  have HW:Hid (∀ p,0≤c.getD p 0∧c.getD p 0<4294967296):=get_wd hw;have HF:Hid (∀ (k p m b o:Nat) (W:World),J k W→(itD c k).2=p→itD c (k+1)=((itD c k).1++[recAt c p],p+m+1)→RowU W (some ⟨b,o,none⟩) m (recAt c p)→1≤m→m≤64→p≤2048→Calls Tryz.prog F (#[.slice (some ⟨b,o,none⟩) m m]++caps) W fun e w'=>e = .returned (.tuple #[])∧J (k+1) w'):=hf;have HMY:Hid (May c):=⟨by omega,by omega⟩
  obtain ⟨hn1,hn2⟩:=hmay;have d1:decide ((n:Int)<1)=false:=by simp;omega
  have d2:decide ((2048:Int)<(n:Int))=false:=by simp;omega
  clear hJ hf hw hcl h0;go_enter Tryz.func62,Tryz.ntmps62;go_wp2_with fail;go_loopw [6] (fun v6 wr=>∃ (k p:Nat),p≤n∧v6=zI (p:Int)∧(itD c k).2=p∧J k wr) (fun v6 _=>n+1 - (intOf v6).toNat)
  case atStart=>exact ⟨0,0,Nat.zero_le _,rfl,rfl,H0.o⟩
  case round=>
   obtain ⟨k,p,hp,rfl,hk,hj⟩:=hrel;have HJK:Hid (J k wr):=hj;have HK:Hid ((itD c k).2=p):=hk;clear hj hk H0;by_cases hpn:p<n
   ·have k2:=HCL.o k wr HJK.o p hpn;have hz:=HW.o p;have e1:decide ((p:Int)<(n:Int))=true:=by simp;omega
    by_cases hz0:c.getD p 0=0
    ·have HL0:Hid (lenAt c p=0):=len_zero hz0
     have HE:Hid (EPost J c (.returned (.tuple #[zI (p:Int),zI 0])) wr):=by
      have hd:¬ 0<lenAt c (itD c k).2:=by rw [HK.o,HL0.o];decide
      have hr:=rep_of hd;exact ⟨_,_,k,rfl,HJK.o,.inr (.inr ⟨HMY.o,by rw [hr,HK.o];exact HL0.o,hr,by rw [hr,HK.o],rfl⟩)⟩
     rw [hz0] at k2;clear hz hz0 HJ HCL HW HF HK HJK HL0;go_wp2_with fail;go_ret2;exact HE.o
    ·by_cases hbad:64<c.getD p 0∨(n:Int)≤p+c.getD p 0
     ·have HE:Hid (EPost J c (.returned (.tuple #[zI 0,zI 3])) wr):=by
       have hl:=len_bad (c:=c) (p:=p) (by rw [HN.o];exact hpn) hz0 (by rw [HN.o];exact hbad);have hd:¬ 0<lenAt c (itD c k).2:=by rw [HK.o];omega
       exact ⟨_,_,k,rfl,HJK.o,.inr (.inl ⟨HMY.o,by rw [rep_of hd,HK.o];exact hl,rfl,rfl⟩)⟩
      have e0:(c.getD p 0 != 0)=true:=by simpa using hz0
      clear HJ HCL HW HF HK HJK;generalize c.getD p 0=z at *;obtain ⟨hz1,hz2⟩:=hz;by_cases h64:64<z
      ·have e3:decide ((64:Int)<z)=true:=by simpa using h64
       clear hbad;go_wp2_with fail;go_ret2;exact HE.o
      ·have e3:decide ((64:Int)<z)=false:=by simpa using h64
       have e4:decide ((n:Int)<(p:Int)+1+z)=true:=by simp;omega
       clear hbad;go_wp2_with fail;go_ret2;exact HE.o
     ·obtain ⟨m,hm⟩:∃ m:Nat,c.getD p 0=(m:Int):=⟨(c.getD p 0).toNat,by omega⟩
      have hgm:(c.getD p 0).toNat=m:=by rw [hm];simp
      have hm1:1≤m:=by omega
      have hm2:m≤64:=by omega
      have hpm:p+m<n:=by omega
      have hla:lenAt c p=(m:Int):=by rw [len_of (by omega) (by omega) (by rw [HN.o];omega),hm]
      have HIT:Hid (itD c (k+1)=((itD c k).1++[recAt c p],p+m+1)):=by
       have h:=it_live (c:=c) (k:=k) (by rw [HK.o,hla];omega);rw [HK.o,hla,Int.toNat_natCast] at h;exact h
      have HCC:Hid (Calls Tryz.prog F (#[.slice (some ⟨b,o+(p+1),none⟩) m m]++caps) wr fun e w'=>e = .returned (.tuple #[])∧J (k+1) w'):=HF.o k p m b (o+(p+1)) wr HJK.o HK.o HIT.o (rowU_part (HJ.o k wr HJK.o) hgm hpm) hm1 hm2 (by omega);rw [hm] at k2;have e0:((m:Int) != 0)=true:=by simp;omega
      have e3:decide ((64:Int)<(m:Int))=false:=by simp;omega
      have e4:decide ((n:Int)<(p:Int)+1+(m:Int))=false:=by simp;omega
      have hc1:p+1<cap:=by omega
      clear hz hz0 hbad hm hgm hla HF HJ HW HCL;go_wp2_with fail;refine HCC.o.mono ?_;rintro e w1 ⟨rfl,hj1⟩;have HJ1:Hid (J (k+1) w1):=hj1;clear hj1;go_wp2_with fail;go_roundw
      case rel=>exact ⟨k+1,p+m+1,by omega,by go_num,by rw [HIT.o],HJ1.o⟩
      case measure=>simp [intOf];omega
   ·have e1:decide ((p:Int)<(n:Int))=false:=by simp;omega
    have HE:Hid (EPost J c (.returned (.tuple #[zI (p:Int),zI 0])) wr):=by
     have hl:lenAt c p=0:=len_end (by rw [HN.o];omega);have hd:¬ 0<lenAt c (itD c k).2:=by rw [HK.o,hl];decide
     have hr:=rep_of hd;exact ⟨_,_,k,rfl,HJK.o,.inr (.inr ⟨HMY.o,by rw [hr,HK.o];exact hl,hr,by rw [hr,HK.o],rfl⟩)⟩
    clear HJ HCL HW HF HK HJK;go_wp2_with fail;go_ret2;exact HE.o
 ·have HE:Hid (EPost J c (.returned (.tuple #[zI 0,zI 1])) w):=⟨0,1,0,rfl,H0.o,.inl ⟨fun h=>hmay ⟨by rw [← hcl];exact h.1,by rw [← hcl];exact h.2⟩,rfl,rfl⟩⟩
  clear hJ hf hw h0 H0 hcl HN;go_enter Tryz.func62,Tryz.ntmps62;by_cases h1:1≤n
  ·have d1:decide ((n:Int)<1)=false:=by simp;omega
   have d2:decide ((2048:Int)<(n:Int))=true:=by simp;omega
   go_wp2_with fail;go_ret2;exact HE.o
  ·have d1:decide ((n:Int)<1)=true:=by simp;omega
   go_wp2_with fail;go_ret2;exact HE.o
end disk
namespace acc
open tar (Du du0 Came RowD Ld PairT)
open Go.RowKit
theorem wp_copyD {P:Program} {T S:TypeId} (hP:PairT P T S) {w:World} {ops:Array Oper} {rest:List Oper} {o:Oper} {a:Act} {Q:Exit→Act→World→Prop} (hgd:o.guard=none) (s x:Operand)
  (ho:o.op = .call { callee:= .builtin .append,args:=#[s,x],argTypes:=#[S,S] })
  (base:Nat) (p:Option Addr) (len cap:Nat) (zs:List Du) (hs:a.eval s=zS) (hx:a.eval x = .slice p len cap) (hc:Came w p len cap zs) (hbase:base≤w.heap.size)
  (h:∀ v' w',Ld T w' base v' zs→w.grownBy w' none→wpList P ops Q rest (a.put o.dst v') w'):wpList P ops Q (o :: rest) a w:=by
 cases p with
 | some A=>exact tar.wp_pairs hP hgd s x ho base A len cap zs hs hx hc.row hc.bytes hbase h
 | none=>
  have h0:=hc.nil rfl;have h1:len=0:=by have:=hc.room;omega
  have h2:zs=[]:=List.eq_nil_of_length_eq_zero (by have:=hc.row.1;omega);subst h0 h1 h2;have hu:=hP.under;have hi0:=hP.info;cases hq:P.info? T with
  | none=>rw [hq] at hi0;cases hi0
  | some i=>
   refine wpList_append_own_none hgd s x S ho base T i 2 hu hq (zS) 0 [] hs (World.ownsRow_nil _ _ _ _) hx ?_;exact h _ _ (tar.Ld.zero _ _ _) ⟨rfl,rfl,rfl,Nat.le_refl _,fun _ _ _=>rfl⟩
theorem pwork (F:Nat) (caps:Array Value) (Is:Ac→Bi→Int→Prop) (x:Ac) (p:Option Addr) (len cap:Nat) (w:World) (hc:Came w p len cap x.ds) (h5:¬ AMay x→Is ac0 bi0 5) (hK:∀ args w,(callFunc F args).run Tryz.prog w = .ok (.enter F args) w)
  (hf:AMay x→∀ (W:World) (g:Nat) (p':Option Addr) (cap':Nat),Below w.heap.size w W→w.heap.size≤g→Blk W g (wcs x bi0 p' len cap') 252→Ld 70 W (g+1) (.slice p' len cap') x.ds→Calls Tryz.prog F (#[.pointer (some ⟨g,0,none⟩)]++caps) W fun e w'=>WPost W g (Or0 Is) e w') :
  Calls Tryz.prog 117 #[.agg #[zI x.me,zI x.rv,zI x.nx,zI x.mo,zI x.bo,zI x.fr,.slice p len cap],.func (.func F) #[] caps] w fun e w'=>BPost w Is e w':=by
 have HFU:Hid (AMay x→∀ (W:World) (g:Nat) (p':Option Addr) (cap':Nat),Below w.heap.size w W→w.heap.size≤g→Blk W g (wcs x bi0 p' len cap') 252→Ld 70 W (g+1) (.slice p' len cap') x.ds→Calls Tryz.prog F (#[.pointer (some ⟨g,0,none⟩)]++caps) W fun e w'=>WPost W g (Or0 Is) e w'):=hf;have HLEN:Hid (x.ds.length=len):=hc.row.1;have H5:Hid (¬ AMay x→Is ac0 bi0 5):=h5;clear hf h5;obtain ⟨W0,HWW,H0d,H0r,H0l,H0B,hs0⟩:=sh3 w #[zI x.me,zI x.rv,zI x.nx,zI x.mo,zI x.bo,zI x.fr,.slice p len cap] 51 #[zI 0,zI 0,zI 0,zI 0,zI 0,zI 0,zS] 51 #[zI 0,zI 0,zI 0,zI 0,zI 0,zI 0,zI 0] 68;have H0R:Hid (Came W0 p len cap x.ds):=hc.below H0B.o;go_enter Tryz.func117,Tryz.ntmps117;go_upto_region 1 with fail
 rw [HWW.o];clear HWW;clear hc;have HPM:Hid (Calls Tryz.prog 159 #[.agg #[zI x.me,zI x.rv,zI x.nx,zI x.mo,zI x.bo,zI x.fr,.slice p len cap]] W0 fun e w'=>MayPost W0 x e w'):=pmay x p len cap W0 H0R.o
 go_wp2_with (first
  | (refine zqw rfl rfl rfl H0d zqu51 ?_)
  | (refine zqw rfl rfl rfl H0r zqu51 ?_)
  | (refine zqw rfl rfl rfl H0l zqu68 ?_)
  | fail)
 refine HPM.o.mono ?_;rintro e w1 ⟨r,rfl,hr,hb1⟩;have H1d:=shN H0d hb1;have H1r:=shN H0r hb1;have H1l:=shN H0l hb1;have H1R:Hid (Came w1 p len cap x.ds):=H0R.o.below hb1;have H1B:=shB H0B hb1;have hsw1:W0.heap.size≤w1.heap.size:=hb1.size;clear hb1 H0d H0r H0l H0R H0B;clear HPM;cases r with
 | false=>
  have HV:Hid (Is ac0 bi0 5):=H5.o fun h=>Bool.noConfusion (hr.2 h);clear hr H5 HFU hK
  go_wp2_with (first
   | (refine zql rfl rfl rfl rfl zqu51 (by simp [Value.oneCell']) H1r rfl ?_)
   | (refine zqw rfl rfl rfl H1d zqu51 ?_)
   | (refine zqw rfl rfl rfl H1r zqu51 ?_)
   | (refine zqw rfl rfl rfl H1l zqu68 ?_)
   | fail)
  intro w1a hU;have H2d:=shK hU H1d (by omega);have H2r:Hid (Blk w1a (w.heap.size+1) #[zI 0,zI 0,zI 0,zI 0,zI 0,zI 0,zS] 51):=hU.blk;have H2l:=shK hU H1l (by omega);have H2B:=shV hU H1B (by omega);have hsw1a:w1a.heap.size=w1.heap.size:=hU.size;clear hU H1d H1r H1l H1R H1B
  go_wp2_with (first
   | (refine zql rfl rfl rfl rfl zqu68 (by simp [Value.oneCell']) H2l rfl ?_)
   | (refine zqw rfl rfl rfl H2d zqu51 ?_)
   | (refine zqw rfl rfl rfl H2r zqu51 ?_)
   | (refine zqw rfl rfl rfl H2l zqu68 ?_)
   | fail)
  intro w1ab hU;have H3d:=shK hU H2d (by omega);have H3r:=shK hU H2r (by omega);have H3l:Hid (Blk w1ab (w.heap.size+1+1) #[zI 0,zI 0,zI 0,zI 0,zI 0,zI 0,zI 0] 68):=hU.blk;have H3B:=shV hU H2B (by omega);have hsw1ab:w1ab.heap.size=w1a.heap.size:=hU.size;clear hU H2d H2r H2l H2B;obtain ⟨Rr0,Rr1,Rr2,Rr3,Rr4,Rr5,Rr6⟩:=shc7 H3r;obtain ⟨Rl0,Rl1,Rl2,Rl3,Rl4,Rl5,Rl6⟩:=shc7 H3l;go_wp2_with fail;exact bodyPost_ret (v:= .tuple #[.agg #[zI 0,zI 0,zI 0,zI 0,zI 0,zI 0,zS],.agg #[zI 0,zI 0,zI 0,zI 0,zI 0,zI 0,zI 0],zI 5]) (by simp [results,Tryz.results117,Rr0.o,Rr1.o,Rr2.o,Rr3.o,Rr4.o,Rr5.o,Rr6.o,Rl0.o,Rl1.o,Rl2.o,Rl3.o,Rl4.o,Rl5.o,Rl6.o,go_sem]) rfl ⟨ac0,bi0,none,0,0,_,rfl,HV.o,deb.fresh_nil _ _,H3B.o⟩
 | true=>
  have HM:Hid (AMay x):=hr.1 rfl;clear hr H5;have HSV:Hid (Blk w1 (w.heap.size) #[zI x.me,zI x.rv,zI x.nx,zI x.mo,zI x.bo,zI x.fr,.slice p len cap] 51):=H1d.o;have H2d:Hid (Blk (w1.alloc (.cells #[zI x.me,zI x.rv,zI x.nx,zI x.mo,zI x.bo,zI x.fr,.slice p len cap,zI 0,zI 0,zI 0,zI 0,zI 0,zI 0,zI 0] 252)) (w.heap.size) #[zI x.me,zI x.rv,zI x.nx,zI x.mo,zI x.bo,zI x.fr,.slice p len cap] 51):=H1d.o.alloc _;have H2r:Hid (Blk (w1.alloc (.cells #[zI x.me,zI x.rv,zI x.nx,zI x.mo,zI x.bo,zI x.fr,.slice p len cap,zI 0,zI 0,zI 0,zI 0,zI 0,zI 0,zI 0] 252)) (w.heap.size+1) #[zI 0,zI 0,zI 0,zI 0,zI 0,zI 0,zS] 51):=H1r.o.alloc _;have H2l:Hid (Blk (w1.alloc (.cells #[zI x.me,zI x.rv,zI x.nx,zI x.mo,zI x.bo,zI x.fr,.slice p len cap,zI 0,zI 0,zI 0,zI 0,zI 0,zI 0,zI 0] 252)) (w.heap.size+1+1) #[zI 0,zI 0,zI 0,zI 0,zI 0,zI 0,zI 0] 68):=H1l.o.alloc _;have H2R:Hid (Came (w1.alloc (.cells #[zI x.me,zI x.rv,zI x.nx,zI x.mo,zI x.bo,zI x.fr,.slice p len cap,zI 0,zI 0,zI 0,zI 0,zI 0,zI 0,zI 0] 252)) p len cap x.ds):=H1R.o.below ((Below.refl _ _).alloc (Nat.le_refl _) _);have H2n:Hid (Blk (w1.alloc (.cells #[zI x.me,zI x.rv,zI x.nx,zI x.mo,zI x.bo,zI x.fr,.slice p len cap,zI 0,zI 0,zI 0,zI 0,zI 0,zI 0,zI 0] 252)) (w1.heap.size) #[zI x.me,zI x.rv,zI x.nx,zI x.mo,zI x.bo,zI x.fr,.slice p len cap,zI 0,zI 0,zI 0,zI 0,zI 0,zI 0,zI 0] 252):=Blk.new w1 _ _;have H2B:Hid (Below w.heap.size w (w1.alloc (.cells #[zI x.me,zI x.rv,zI x.nx,zI x.mo,zI x.bo,zI x.fr,.slice p len cap,zI 0,zI 0,zI 0,zI 0,zI 0,zI 0,zI 0] 252))):=H1B.o.alloc H1B.o.size _;have hsW2:(w1.alloc (.cells #[zI x.me,zI x.rv,zI x.nx,zI x.mo,zI x.bo,zI x.fr,.slice p len cap,zI 0,zI 0,zI 0,zI 0,zI 0,zI 0,zI 0] 252)).heap.size=w1.heap.size+1:=by simp
  clear H1d H1r H1l H1R H1B;go_upto_region 4 with (first | (refine zqw rfl rfl rfl HSV zqu51 ?_) | fail)
  generalize (w1.alloc (.cells #[zI x.me,zI x.rv,zI x.nx,zI x.mo,zI x.bo,zI x.fr,.slice p len cap,zI 0,zI 0,zI 0,zI 0,zI 0,zI 0,zI 0] 252))=W2 at *;clear HSV;have qd6:W2.cell? ⟨w.heap.size,6,none⟩=some (.slice p len cap):=H2d.o.cell 6
  go_wp2_with (first
   | (at_builtin;refine wp_copyD deb.debtT rfl _ _ rfl (w1.heap.size+1) p len cap x.ds rfl rfl H2R.o (by omega) ?_)
   | (refine zqw rfl rfl rfl H2d zqu51 ?_)
   | (refine zqw rfl rfl rfl H2r zqu51 ?_)
   | (refine zqw rfl rfl rfl H2l zqu68 ?_)
   | (refine zqw rfl rfl rfl H2n zqu252 ?_)
   | fail)
  intro v3 w3 hl3 hg3;have hb3:Below W2.heap.size W2 w3:=(Below.refl _ _).grown hg3 (Nat.le_refl _) (fun k hk=>by cases hk);obtain ⟨p3,cap3,hv3,hf3⟩:=deb.ld_fresh hl3 HM.o.1;rw [HLEN.o] at hv3 hf3;subst hv3;have H3d:=shN H2d hb3;have H3r:=shN H2r hb3;have H3l:=shN H2l hb3;have H3n:=shN H2n hb3;have H3B:=shB H2B hb3;have HL3:Hid (Ld 70 w3 (w1.heap.size+1) (.slice p3 len cap3) x.ds):=hl3;have hsw3:W2.heap.size≤w3.heap.size:=hb3.size;clear hl3 hg3 hb3 hf3 qd6 H2d H2r H2l H2n H2B
  go_wp2_with (first
   | (refine wp_letS rfl 49 _ _ rfl (w1.heap.size) 6 rfl p3 len cap3 rfl (by kernel_rfl) #[zI x.me,zI x.rv,zI x.nx,zI x.mo,zI x.bo,zI x.fr,.slice p len cap,zI 0,zI 0,zI 0,zI 0,zI 0,zI 0,zI 0] 252 H3n.o (by simp) ?_)
   | (refine zqw rfl rfl rfl H3d zqu51 ?_)
   | (refine zqw rfl rfl rfl H3r zqu51 ?_)
   | (refine zqw rfl rfl rfl H3l zqu68 ?_)
   | (refine zqw rfl rfl rfl H3n zqu252 ?_)
   | fail)
  intro W4 hU;have H4d:=shK hU H3d (by omega);have H4r:=shK hU H3r (by omega);have H4l:=shK hU H3l (by omega);have H4n:Hid (Blk W4 (w1.heap.size) #[zI x.me,zI x.rv,zI x.nx,zI x.mo,zI x.bo,zI x.fr,.slice p3 len cap3,zI 0,zI 0,zI 0,zI 0,zI 0,zI 0,zI 0] 252):=hU.blk;have H4B:=shV hU H3B (by omega);have HL4:Hid (Ld 70 W4 (w1.heap.size+1) (.slice p3 len cap3) x.ds):=ld_upd HL3.o hU (by omega);have HCA:Hid (Calls Tryz.prog F (#[.pointer (some ⟨w1.heap.size,0,none⟩)]++caps) W4 fun e w'=>WPost W4 w1.heap.size (Or0 Is) e w'):=HFU.o HM.o W4 w1.heap.size p3 cap3 H4B.o (by omega) H4n.o HL4.o;have hsW4:W4.heap.size=w3.heap.size:=hU.size;clear hU HL3 HL4 HFU H3d H3r H3l H3n H3B;go_wp2_with fail;refine HCA.o.mono ?_;rintro e w5 ⟨y,b,q,n,c,f,rfl,hor,hi5,hf5,hb5⟩;have H5d:Hid (Blk w5 (w.heap.size) #[zI x.me,zI x.rv,zI x.nx,zI x.mo,zI x.bo,zI x.fr,.slice p len cap] 51):=H4d.o.below hb5 (by omega);have H5r:Hid (Blk w5 (w.heap.size+1) #[zI 0,zI 0,zI 0,zI 0,zI 0,zI 0,zS] 51):=H4r.o.below hb5 (by omega);have H5l:Hid (Blk w5 (w.heap.size+1+1) #[zI 0,zI 0,zI 0,zI 0,zI 0,zI 0,zI 0] 68):=H4l.o.below hb5 (by omega);have H5n:Hid (Blk w5 (w1.heap.size) #[zI y.me,zI y.rv,zI y.nx,zI y.mo,zI y.bo,zI y.fr,.slice q n c,zI b.id,zI b.te,zI b.de,zI b.fe,zI b.pr,zI b.ch,zI b.un] 252):=hi5;have H5B:Hid (Below w.heap.size w w5):=H4B.o.trans (hb5.mono (by omega));have hsw5:W4.heap.size≤w5.heap.size:=hb5.size;have H6F:Hid (deb.Fresh w5 (w1.heap.size+1) q n c y.ds):=hf5;have HUPF:Hid (0<n→∀ y,q=some y→y.block<w5.heap.size):=came_lt H6F.o.came;have HOR:Hid (Or0 Is y b f):=hor;clear hor hi5 hf5 hb5 HCA hK H4d H4r H4l H4n H4B;by_cases h0:f=0
  ·subst h0
   have HV:Hid (Is y b 0):=by
    rcases HOR.o with ⟨h,_⟩ | ⟨_,h⟩
    ·exact absurd rfl h
    ·exact h
   clear HOR;go_wp2_with fail;refine wp_region_held_drew (S:=fun v=>Blk v (w1.heap.size) #[zI y.me,zI y.rv,zI y.nx,zI y.mo,zI y.bo,zI y.fr,.slice q n c,zI b.id,zI b.te,zI b.de,zI b.fe,zI b.pr,zI b.ch,zI b.un] 252) (by kernel_rfl) (Blk.drew H5n.o 1) (fun hHeld=>?_);refine zqs 0 28 (.pointer (some ⟨w1.heap.size,0,none⟩)) rfl rfl (by kernel_rfl) zid rfl (fun v hv=>by clear hv;go_simp) hHeld ?_;simp only [zq];refine zqt 1 29 (.agg #[zI y.me,zI y.rv,zI y.nx,zI y.mo,zI y.bo,zI y.fr,.slice q n c]) rfl rfl (by kernel_rfl) zid (Or.inl ⟨by rfl,fun v hv=>by have g0:=hv.cell 0;have g1:=hv.cell 1;have g2:=hv.cell 2;have g3:=hv.cell 3;have g4:=hv.cell 4;have g5:=hv.cell 5;have g6:=hv.cell 6;clear hv;go_simp⟩) hHeld ?_;simp only [zq];refine zqs 2 30 (.pointer (some ⟨w1.heap.size,7,none⟩)) rfl rfl (by kernel_rfl) zid rfl (fun v hv=>by clear hv;go_simp) hHeld ?_;simp only [zq];refine zqt 3 31 (.agg #[zI b.id,zI b.te,zI b.de,zI b.fe,zI b.pr,zI b.ch,zI b.un]) rfl rfl (by kernel_rfl) zid (Or.inl ⟨by rfl,fun v hv=>by have g0:=hv.cell 7;have g1:=hv.cell 8;have g2:=hv.cell 9;have g3:=hv.cell 10;have g4:=hv.cell 11;have g5:=hv.cell 12;have g6:=hv.cell 13;clear hv;go_simp⟩) hHeld ?_;simp only [zq];refine zqo 4 (by kernel_rfl) rfl (fun K hK=>?_);rw [if_pos (by rfl)];refine wp_letOp 51 _ _ rfl (w.heap.size+1) rfl #[zI y.me,zI y.rv,zI y.nx,zI y.mo,zI y.bo,zI y.fr,.slice q n c] rfl (by kernel_rfl) (by simp [Value.oneCell']) #[zI 0,zI 0,zI 0,zI 0,zI 0,zI 0,zS] 51 (Blk.drew H5r.o 1) rfl rfl ?_;intro V1 hU;have H7d:Hid (Blk V1 (w.heap.size) #[zI x.me,zI x.rv,zI x.nx,zI x.mo,zI x.bo,zI x.fr,.slice p len cap] 51):=hU.keep (Blk.drew H5d.o 1) (by omega);have H7r:Hid (Blk V1 (w.heap.size+1) #[zI y.me,zI y.rv,zI y.nx,zI y.mo,zI y.bo,zI y.fr,.slice q n c] 51):=hU.blk;have H7l:Hid (Blk V1 (w.heap.size+1+1) #[zI 0,zI 0,zI 0,zI 0,zI 0,zI 0,zI 0] 68):=hU.keep (Blk.drew H5l.o 1) (by omega)
   have H7n:Hid (Blk V1 (w1.heap.size) #[zI y.me,zI y.rv,zI y.nx,zI y.mo,zI y.bo,zI y.fr,.slice q n c,zI b.id,zI b.te,zI b.de,zI b.fe,zI b.pr,zI b.ch,zI b.un] 252):=hU.keep (Blk.drew H5n.o 1) (by omega);have H7F:Hid (deb.Fresh V1 (w1.heap.size+1) q n c y.ds):=fresh_updN (fresh_drew H6F.o) hU (fun hn y hy=>by have f1:=H6F.o.new hn y hy;have f2:=HUPF.o hn y hy;omega);have H7B:Hid (Below w.heap.size w V1):=hU.bel _ _ (by omega) H5B.o.drew;clear hU H5d H5r H5l H5n H6F H5B;refine hK.o _ _ H7n.o (fun hHeld=>?_);clear hK K;refine zqo 5 (by kernel_rfl) rfl (fun K hK=>?_);rw [if_pos (by rfl)];refine wp_letOp 68 _ _ rfl (w.heap.size+1+1) rfl #[zI b.id,zI b.te,zI b.de,zI b.fe,zI b.pr,zI b.ch,zI b.un] rfl (by kernel_rfl) (by simp [Value.oneCell']) #[zI 0,zI 0,zI 0,zI 0,zI 0,zI 0,zI 0] 68 H7l.o rfl rfl ?_;intro V2 hU;have H8d:=shK hU H7d (by omega);have H8r:=shK hU H7r (by omega);have H8l:Hid (Blk V2 (w.heap.size+1+1) #[zI b.id,zI b.te,zI b.de,zI b.fe,zI b.pr,zI b.ch,zI b.un] 68):=hU.blk;have H8n:=shK hU H7n (by omega);have H8F:Hid (deb.Fresh V2 (w1.heap.size+1) q n c y.ds):=fresh_updN H7F.o hU (fun hn y hy=>by have f1:=H7F.o.new hn y hy;have f2:=HUPF.o hn y hy;omega);have H8B:=shV hU H7B (by omega);clear hU H7d H7r H7l H7n H7F H7B;refine hK.o _ _ H8n.o (fun hHeld=>?_);clear hK K;refine zqs 6 6 (zI 0) rfl rfl (by kernel_rfl) zid rfl (fun v hv=>by clear hv;go_simp) hHeld ?_;simp only [zq];refine wpAnyH_done (by kernel_rfl) ?_ _;clear hHeld;have Rr0:Hid (V2.cell? ⟨w.heap.size+1,0,none⟩=some (zI y.me)):=H8r.o.cell 0;have Rr1:Hid (V2.cell? ⟨w.heap.size+1,1,none⟩=some (zI y.rv)):=H8r.o.cell 1;have Rr2:Hid (V2.cell? ⟨w.heap.size+1,2,none⟩=some (zI y.nx)):=H8r.o.cell 2;have Rr3:Hid (V2.cell? ⟨w.heap.size+1,3,none⟩=some (zI y.mo)):=H8r.o.cell 3;have Rr4:Hid (V2.cell? ⟨w.heap.size+1,4,none⟩=some (zI y.bo)):=H8r.o.cell 4;have Rr5:Hid (V2.cell? ⟨w.heap.size+1,5,none⟩=some (zI y.fr)):=H8r.o.cell 5
   have Rr6:Hid (V2.cell? ⟨w.heap.size+1,6,none⟩=some (.slice q n c)):=H8r.o.cell 6;have Rl0:Hid (V2.cell? ⟨w.heap.size+1+1,0,none⟩=some (zI b.id)):=H8l.o.cell 0;have Rl1:Hid (V2.cell? ⟨w.heap.size+1+1,1,none⟩=some (zI b.te)):=H8l.o.cell 1;have Rl2:Hid (V2.cell? ⟨w.heap.size+1+1,2,none⟩=some (zI b.de)):=H8l.o.cell 2;have Rl3:Hid (V2.cell? ⟨w.heap.size+1+1,3,none⟩=some (zI b.fe)):=H8l.o.cell 3;have Rl4:Hid (V2.cell? ⟨w.heap.size+1+1,4,none⟩=some (zI b.pr)):=H8l.o.cell 4;have Rl5:Hid (V2.cell? ⟨w.heap.size+1+1,5,none⟩=some (zI b.ch)):=H8l.o.cell 5;have Rl6:Hid (V2.cell? ⟨w.heap.size+1+1,6,none⟩=some (zI b.un)):=H8l.o.cell 6;go_wp2_with fail;exact bodyPost_ret (v:= .tuple #[.agg #[zI y.me,zI y.rv,zI y.nx,zI y.mo,zI y.bo,zI y.fr,.slice q n c],.agg #[zI b.id,zI b.te,zI b.de,zI b.fe,zI b.pr,zI b.ch,zI b.un],zI 0]) (by simp [results,Tryz.results117,Rr0.o,Rr1.o,Rr2.o,Rr3.o,Rr4.o,Rr5.o,Rr6.o,Rl0.o,Rl1.o,Rl2.o,Rl3.o,Rl4.o,Rl5.o,Rl6.o,go_sem]) rfl ⟨y,b,q,n,c,0,rfl,HV.o,H8F.o.low (by omega),H8B.o⟩
  ·have d0:(f != 0)=true:=by simpa using h0
   have HV:Hid (Is ac0 bi0 f):=by
    rcases HOR.o with ⟨_,h⟩ | ⟨h,_⟩
    ·exact h
    ·exact absurd h h0
   clear HOR h0
   go_wp2_with (first
    | (refine zql rfl rfl rfl rfl zqu51 (by simp [Value.oneCell']) H5r rfl ?_)
    | (refine zqw rfl rfl rfl H5d zqu51 ?_)
    | (refine zqw rfl rfl rfl H5r zqu51 ?_)
    | (refine zqw rfl rfl rfl H5l zqu68 ?_)
    | (refine zqw rfl rfl rfl H5n zqu252 ?_)
    | fail)
   intro w5a hU;have H7d:=shK hU H5d (by omega);have H7r:Hid (Blk w5a (w.heap.size+1) #[zI 0,zI 0,zI 0,zI 0,zI 0,zI 0,zS] 51):=hU.blk;have H7l:=shK hU H5l (by omega);have H7n:=shK hU H5n (by omega);have H7B:=shV hU H5B (by omega);have hsw5a:w5a.heap.size=w5.heap.size:=hU.size;clear hU H5d H5r H5l H5n H5B
   go_wp2_with (first
    | (refine zql rfl rfl rfl rfl zqu68 (by simp [Value.oneCell']) H7l rfl ?_)
    | (refine zqw rfl rfl rfl H7d zqu51 ?_)
    | (refine zqw rfl rfl rfl H7r zqu51 ?_)
    | (refine zqw rfl rfl rfl H7l zqu68 ?_)
    | (refine zqw rfl rfl rfl H7n zqu252 ?_)
    | fail)
   intro w5ab hU;have H8d:=shK hU H7d (by omega);have H8r:=shK hU H7r (by omega);have H8l:Hid (Blk w5ab (w.heap.size+1+1) #[zI 0,zI 0,zI 0,zI 0,zI 0,zI 0,zI 0] 68):=hU.blk;have H8n:=shK hU H7n (by omega);have H8B:=shV hU H7B (by omega);have hsw5ab:w5ab.heap.size=w5a.heap.size:=hU.size;clear hU H7d H7r H7l H7n H7B;obtain ⟨Rr0,Rr1,Rr2,Rr3,Rr4,Rr5,Rr6⟩:=shc7 H8r;obtain ⟨Rl0,Rl1,Rl2,Rl3,Rl4,Rl5,Rl6⟩:=shc7 H8l;go_wp2_with fail;exact bodyPost_ret (v:= .tuple #[.agg #[zI 0,zI 0,zI 0,zI 0,zI 0,zI 0,zS],.agg #[zI 0,zI 0,zI 0,zI 0,zI 0,zI 0,zI 0],zI f]) (by simp [results,Tryz.results117,Rr0.o,Rr1.o,Rr2.o,Rr3.o,Rr4.o,Rr5.o,Rr6.o,Rl0.o,Rl1.o,Rl2.o,Rl3.o,Rl4.o,Rl5.o,Rl6.o,go_sem]) rfl ⟨ac0,bi0,none,0,0,_,rfl,HV.o,deb.fresh_nil _ _,H8B.o⟩
end acc
end Go.Proofs.YtnpblpbohcegoaaGreatDoor
