import Derived.Test.YtdpfnedfakgolaaGreatDoorVVRnt5
import Derived.Test.YtdpfnedfakgolaaGreatDoorVVRnt6
import Derived.Test.YtdpfnedfakgolaaGreatDoorVVRnt7
set_option linter.unusedVariables false
set_option linter.unusedSimpArgs false
set_option maxHeartbeats 4000000
set_option maxRecDepth 100000
namespace Go.Proofs.YtdpfnedfakgolaaGreatDoor
namespace book
open Go.RowKit
open acc (Ac Tm Bi APost BPost OweIs SellIs GrantIs RekeyIs)
def Small (bk:List Cm) (k:Nat):Prop:=bk.length≤k∧∀ c∈bk,c.so.length≤k∧0≤c.a.rv∧c.a.rv≤15
theorem Small.zero:Small [] 0:=⟨Nat.le_refl _,fun c hc=>by cases hc⟩
theorem owe_rv {a b:Ac} {d:tar.Du} (h:OweIs a d b 0) (hr:0≤a.rv∧a.rv≤15):0≤b.rv∧b.rv≤15:=by
 rcases h with ⟨_,_,e⟩ | ⟨_,_,_,e⟩ | ⟨_,_,_,_,e⟩ | ⟨_,_,_,rfl,_⟩
 ·cases e
 ·cases e
 ·cases e
 ·exact hr
theorem tells_rv {t:Tm} {c:Cm} {v:Ev} {b:Ac} {l:Bi} (h:Tells t c v b l 0) (hr:0≤c.a.rv∧c.a.rv≤15):0≤b.rv∧b.rv≤15:=by
 rcases h with ⟨_,h⟩ | ⟨_,h⟩ | ⟨_,h⟩
 ·rcases h with ⟨p,rfl,_⟩ | ⟨_,_,e,_⟩ | ⟨_,_,_,e,_⟩ | ⟨_,_,_,_,u,_,rfl,_⟩
  ·exact ⟨Int.le_refl _,by show (0:Int)≤15;decide⟩
  ·cases e
  ·cases e
  ·exact hr
 ·rcases h with ⟨p,rfl,_⟩ | ⟨_,_,e,_⟩ | ⟨_,_,_,e,_⟩ | ⟨_,_,_,_,e,_⟩ | ⟨_,_,_,_,_,rfl,_⟩
  ·exact ⟨Int.le_refl _,by show (0:Int)≤15;decide⟩
  ·cases e
  ·cases e
  ·cases e
  ·exact hr
 ·rcases h with ⟨_,_,_,e⟩ | ⟨_,_,_,_,e⟩ | ⟨_,_,_,_,_,e⟩ | ⟨_,q,_,rfl,_,_⟩
  ·cases e
  ·cases e
  ·cases e
  ·exact ⟨by show 0≤c.a.rv+1;omega,by show c.a.rv+1≤15;omega⟩
theorem hap_small {t:Tm} {c c':Cm} {v:Ev} {k:Nat} (h:HapIs t c v c' 0) (hs:c.so.length≤k∧0≤c.a.rv∧c.a.rv≤15):c'.so.length≤k+1∧0≤c'.a.rv∧c'.a.rv≤15:=by
 rcases h with ⟨_,b,q,r⟩ | ⟨_,b,l,e,q,r⟩
 ·rw [r rfl];exact ⟨by show c.so.length≤k+1;omega,owe_rv q hs.2⟩
 ·rcases r with ⟨x,y⟩ | ⟨_,_,y⟩ | ⟨x,_,_,rfl⟩
  ·exact absurd y.symm x
  ·cases y
  ·subst x;refine ⟨?_,tells_rv q hs.2⟩;show (c.so++[_]).length≤k+1;rw [List.length_append];exact Nat.succ_le_succ hs.1
theorem step_small {t:Tm} {bk bk':List Cm} {v:Ev} {k:Nat} (h:StepIs t bk v bk' 0) (hs:Small bk k):Small bk' (k+1):=by
 rcases h with ⟨_,e⟩ | ⟨_,_,_,e⟩ | ⟨_,_,_,_,rfl⟩ | ⟨_,_,_,e⟩ | ⟨_,_,j,c',hj,hh,he⟩
 ·cases e
 ·cases e
 ·refine ⟨by rw [List.length_append];exact Nat.succ_le_succ hs.1,fun c hc=>?_⟩;rcases List.mem_append.1 hc with h | h
  ·have:=hs.2 c h;omega
  ·rw [List.mem_singleton.1 h];exact ⟨Nat.zero_le _,Int.le_refl _,by show (0:Int)≤15;decide⟩
 ·cases e
 ·rw [he rfl]
  have hm:bk.getD j cm0∈bk:=by
   have:bk.getD j cm0=bk[j]'hj.1:=by simp [List.getD,List.getElem?_eq_getElem hj.1]
   rw [this];exact List.getElem_mem _
  refine ⟨by rw [List.length_set];have:=hs.1;omega,fun c hc=>?_⟩;rcases List.mem_or_eq_of_mem_set hc with h | rfl
  ·have:=hs.2 c h;omega
  ·exact hap_small hh (hs.2 _ hm)
end book
namespace words
open Go.RowKit
theorem timesStep_any (B M:Nat) (n x m:Int) (w:World) (hc:w.cell? ⟨B,0,none⟩=some (.int .u64 n)) (hf:w.frozen? ⟨B,0,none⟩=false) (hm:w.cell? ⟨M,0,none⟩=some (.int .u32 m)) (h0:0≤n) (h1:n<4294967296) (x0:0≤x) (x1:x<4294967296) (m0:0≤m) (m1:m<4294967296) :
  Calls Tryz.prog 90 #[.int .u32 x,.pointer (some ⟨B,0,none⟩),.pointer (some ⟨M,0,none⟩)] w fun e w'=>e = .returned (.int .u32 ((n+x*m) % 4294967296))∧Acc w w' B (.int .u64 ((n+x*m) / 4294967296)):=by
 have hA:Acc w w B (.int .u64 n):=Acc.refl hc hf;have HA:Hid (Acc w w B (.int .u64 n)):=hA;obtain ⟨p1,p2⟩:=prod_bd x0 x1 m0 m1;clear hA;go_enter Tryz.func90,Tryz.ntmps90;go_wp2_with fail;refine (cutWord_any B (n+x*m) _ (by apply World.cell?_setCell_same;exact hc) (by rw [World.frozen?_setCell];exact hf)).mono ?_;rintro e w' ⟨rfl,rfl⟩;go_wp2_with fail;go_ret;exact ⟨rfl,(HA.o.set _).set _⟩
end words
namespace book
open Go.RowKit
def leftE (v:Ev):Ev:=if v.kd=2 then ⟨0,0,0,0,0,0,0,0,0,0,0,v.ow,v.bp⟩ else if v.kd=3 then ⟨0,0,0,0,v.te,v.de,v.fe,v.pr,v.ch,0,0,v.ow,v.bp⟩ else if v.kd=4 then ⟨0,0,v.mo,0,v.te,v.de,v.fe,v.pr,v.ch,v.un,0,v.ow,v.bp⟩ else if v.kd=5 then ⟨0,0,v.mo,v.id,v.te,v.de,v.fe,v.pr,v.ch,v.un,v.tg,0,0⟩ else ⟨0,0,v.mo,v.id,v.te,v.de,v.fe,v.pr,v.ch,v.un,v.tg,v.ow,v.bp⟩
def Numd (id tg:Int):Prop:=(1≤id∧id≤1048575)∧0≤tg∧tg≤65535
def Unt (un:Int):Prop:=1≤un∧un≤2097151
def Mon (mo:Int):Prop:=0≤mo∧mo≤2399
def Mony (te de fe pr ch:Int):Prop:=(1≤te∧te≤100000000)∧((0≤de∧de≤100000000)∧(0≤fe∧fe≤100000000)∧(0≤pr∧pr≤100000000)∧0≤ch∧ch≤100000000)∧de+fe+pr+ch=te
def Dbt (ow bp:Int):Prop:=(1≤ow∧ow≤1000000000)∧0≤bp∧bp≤10000
def KindR (v:Ev):Prop:=v.kd=1∨(v.kd=2∧Mon v.mo∧Numd v.id v.tg∧Unt v.un∧Mony v.te v.de v.fe v.pr v.ch)∨(v.kd=3∧Mon v.mo∧Numd v.id v.tg∧Unt v.un)∨(v.kd=4∧Numd v.id v.tg)∨(v.kd=5∧Dbt v.ow v.bp)
theorem may_iff (v:Ev):EMay v↔(0≤v.me∧v.me≤49)∧KindR v∧leftE v=ev0:=by
 obtain ⟨kd,me,mo,id,te,de,fe,pr,ch,un,tg,ow,bp⟩:=v;unfold EMay KindR leftE ev0 Numd Unt Mon Mony Dbt;simp only;by_cases h1:kd=1
 ·subst h1;simp
 by_cases h2:kd=2
 ·subst h2;simp;intro _ _;constructor <;> intro h <;> omega
 by_cases h3:kd=3
 ·subst h3;simp;intro _ _;constructor <;> intro h <;> omega
 by_cases h4:kd=4
 ·subst h4;simp;intro _ _;constructor <;> intro h <;> omega
 by_cases h5:kd=5
 ·subst h5;simp;intro _ _;constructor <;> intro h <;> omega
 constructor
 ·rintro ⟨_,h | h | h⟩
  ·exact absurd h.1 h1
  ·exact absurd h.1 h5
  ·have:=h.1;omega
 ·rintro ⟨_,h | h | h | h | h,_⟩
  ·exact absurd h h1
  ·exact absurd h.1 h2
  ·exact absurd h.1 h3
  ·exact absurd h.1 h4
  ·exact absurd h.1 h5
theorem kind_2 {v:Ev} (h:v.kd=2):KindR v↔Mon v.mo∧Numd v.id v.tg∧Unt v.un∧Mony v.te v.de v.fe v.pr v.ch:=by simp [KindR,h]
theorem kind_3 {v:Ev} (h:v.kd=3):KindR v↔Mon v.mo∧Numd v.id v.tg∧Unt v.un:=by simp [KindR,h]
theorem kind_4 {v:Ev} (h:v.kd=4):KindR v↔Numd v.id v.tg:=by simp [KindR,h]
theorem kind_5 {v:Ev} (h:v.kd=5):KindR v↔Dbt v.ow v.bp:=by simp [KindR,h]
def YN (w:World) (P:Prop) (e:Ending) (w':World):Prop:=∃ B,e = .returned (.bool B)∧(B=true↔P)∧Below w.heap.size w w'
theorem YN.yes {w w':World} {P:Prop} (h:P) (hb:Below w.heap.size w w'):YN w P (.returned (.bool true)) w':=⟨true,rfl,⟨fun _=>h,fun _=>rfl⟩,hb⟩
theorem YN.no {w w':World} {P:Prop} (h:¬ P) (hb:Below w.heap.size w w'):YN w P (.returned (.bool false)) w':=⟨false,rfl,⟨fun q=>(by cases q),fun q=>absurd q h⟩,hb⟩
open cell
def DecGot (w:World) (l:List Int) (e:Ending) (w':World):Prop:=∃ v f,e = .returned (.tuple #[Ev.v v,zI f])∧DecIs l v f∧Below w.heap.size w w'
def KDec:Prop:=∀ (W:World) (a:Option Addr) (n cap:Nat) (l:List Int),RowU W a n l→(a=none→cap=0)→n≤cap→n*4≤140737488351232→(∀ x∈l,0≤x∧x<4294967296)→Calls Tryz.prog 73 #[.slice a n cap] W fun e w'=>DecGot W l e w'
end book
namespace acc
open tar (Du du0 Came RowD Ld PairT)
open Go.RowKit
theorem awithin (lo hi n:Int) (w:World):Calls Tryz.prog 114 #[zI lo,zI hi,zI n] w fun e w'=>e = .returned (.bool (decide (lo≤n∧n≤hi)))∧w'=w:=by
 by_cases h1:lo≤n
 ·by_cases h2:n≤hi
  ·have h3:decide (lo≤n∧n≤hi)=true:=by simp;omega
   rw [h3];clear h3;go_enter Tryz.func114,Tryz.ntmps114;go_wp2;go_ret;exact ⟨rfl,rfl⟩
  ·have h3:decide (lo≤n∧n≤hi)=false:=by simp;omega
   have h4:decide (n≤hi)=false:=by simp;omega
   rw [h3];clear h3 h2;go_enter Tryz.func114,Tryz.ntmps114;go_wp2;go_ret;exact ⟨rfl,rfl⟩
 ·have h3:decide (lo≤n∧n≤hi)=false:=by simp;omega
  have h4:decide (lo≤n)=false:=by simp;omega
  rw [h3];clear h3 h1;go_enter Tryz.func114,Tryz.ntmps114;go_wp2;go_ret;exact ⟨rfl,rfl⟩
def KcCheck:Prop:=∀ (W:World) (t:Tm) (pt:Option Addr) (lt ct:Nat),TCame W t pt lt ct→Calls Tryz.prog 74 #[t.v pt lt ct] W fun e w'=>tar.ErrPost W (TFault t) e w'
end acc
namespace tar
open Go.RowKit
theorem pwithin (lo hi n:Int) (w:World):Calls Tryz.prog 135 #[zI lo,zI hi,zI n] w fun e w'=>e = .returned (.bool (decide (lo≤n∧n≤hi)))∧w'=w:=by
 by_cases h1:lo≤n
 ·by_cases h2:n≤hi
  ·have h3:decide (lo≤n∧n≤hi)=true:=by simp;omega
   rw [h3];clear h3;go_enter Tryz.func135,Tryz.ntmps135;go_wp2;go_ret;exact ⟨rfl,rfl⟩
  ·have h3:decide (lo≤n∧n≤hi)=false:=by simp;omega
   have h4:decide (n≤hi)=false:=by simp;omega
   rw [h3];clear h3 h2;go_enter Tryz.func135,Tryz.ntmps135;go_wp2;go_ret;exact ⟨rfl,rfl⟩
 ·have h3:decide (lo≤n∧n≤hi)=false:=by simp;omega
  have h4:decide (lo≤n)=false:=by simp;omega
  rw [h3];clear h3 h1;go_enter Tryz.func135,Tryz.ntmps135;go_wp2;go_ret;exact ⟨rfl,rfl⟩
open Classical in
theorem kcheck:KtCheck:=by
 intro w a n cap ls hcame;have hr:=hcame.row;have hn:=hcame.most;clear hcame;have hlen:=hr.1;have HIU:Hid (∀ x W,Calls Tryz.prog 135 #[zI 1,zI 10000000,zI x] W fun e w'=>e = .returned (.bool (decide (1≤x∧x≤10000000)))∧w'=W):=fun x W=>pwithin 1 10000000 x W;have HIP:Hid (∀ x W,Calls Tryz.prog 135 #[zI 1,zI 100000,zI x] W fun e w'=>e = .returned (.bool (decide (1≤x∧x≤100000)))∧w'=W):=fun x W=>pwithin 1 100000 x W;by_cases hs:1≤n∧n≤8
 ·have HS:Hid (Sized ls):=by show 1≤ls.length∧ls.length≤8;rw [hlen];exact hs
  obtain ⟨hs1,hs2⟩:=hs;have hd0:((n:Int) == 0)=false:=by simp;omega
  have hd8:decide ((8:Int)<(n:Int))=false:=by simp;omega
  obtain ⟨b,off,rfl,hbl,hc⟩:=hr.at hs1;have HC:Hid (∀ i,i<n→w.cell? ⟨b,off+i*2,none⟩=some (zI (ls.getD i du0).a)∧w.cell? ⟨b,off+i*2+1,none⟩=some (zI (ls.getD i du0).b)):=hc;have HLEN:Hid (ls.length=n):=hlen;have HRS:Hid (∀ W,Below w.heap.size w W→Calls Tryz.prog 136 #[.slice (some ⟨b,off,none⟩) n cap] W fun e w'=>e = .returned (.bool (decide (Rises ls)))∧Below W.heap.size W w'):=fun W hW=>prises b off n cap ls W hs1 hs2 hlen (Nat.lt_of_lt_of_le hbl hW.size) (fun i hi=>⟨(hW.cell (p:=⟨b,off+i*2,none⟩) hbl).trans (hc i hi).1,(hW.cell (p:=⟨b,off+i*2+1,none⟩) hbl).trans (hc i hi).2⟩);have hnm:n≤9223372036854775807:=by omega
  clear hc hr hn hlen;go_enter Tryz.func113,Tryz.ntmps113;go_wp2_with fail;go_loopw [15] (fun x wr=>∃ k:Nat,k≤n∧x=zI (k:Int)∧(∀ i,i<k→(1≤(ls.getD i du0).a∧(ls.getD i du0).a≤10000000)∧1≤(ls.getD i du0).b∧(ls.getD i du0).b≤100000)∧Below w.heap.size w wr) (fun x _=>n - (intOf x).toNat)
  case atStart=>exact ⟨0,Nat.zero_le _,rfl,fun i hi=>absurd hi (Nat.not_lt_zero _),Below.refl _ _⟩
  case round=>
   obtain ⟨k,hk,rfl,hf,hb⟩:=hrel;have HF:Hid (∀ i,i<k→(1≤(ls.getD i du0).a∧(ls.getD i du0).a≤10000000)∧1≤(ls.getD i du0).b∧(ls.getD i du0).b≤100000):=hf;have HB:Hid (Below w.heap.size w wr):=hb;clear hf;by_cases hlt:k<n
   ·have hdl:decide ((k:Int)<(n:Int))=true:=by simp;omega
    have c0:wr.cell? ⟨b,off+k*2,none⟩=some (zI (ls.getD k du0).a):=(hb.cell (p:=⟨b,off+k*2,none⟩) hbl).trans (HC.o k hlt).1;have c1:wr.cell? ⟨b,off+k*2+1,none⟩=some (zI (ls.getD k du0).b):=(hb.cell (p:=⟨b,off+k*2+1,none⟩) hbl).trans (HC.o k hlt).2;have HBA:Hid (∀ o,Below w.heap.size w (wr.alloc o)):=fun o=>hb.alloc hb.size o;clear hb;have HU:=HIU.o (ls.getD k du0).a;have HP:=HIP.o (ls.getD k du0).b;by_cases hu:1≤(ls.getD k du0).a∧(ls.getD k du0).a≤10000000
    ·rw [decide_eq_true hu] at HU;by_cases hp:1≤(ls.getD k du0).b∧(ls.getD k du0).b≤100000
     ·rw [decide_eq_true hp] at HP
      have HF2:Hid (∀ i,i<k+1→(1≤(ls.getD i du0).a∧(ls.getD i du0).a≤10000000)∧1≤(ls.getD i du0).b∧(ls.getD i du0).b≤100000):=fun i hi=>by
       by_cases e:i=k
       ·subst e;exact ⟨hu,hp⟩
       ·exact HF.o i (by omega)
      have HU2:Hid (∀ W,Calls Tryz.prog 135 #[zI 1,zI 10000000,zI (ls.getD k du0).a] W fun e w'=>e = .returned (.bool true)∧w'=W):=HU;have HP2:Hid (∀ W,Calls Tryz.prog 135 #[zI 1,zI 100000,zI (ls.getD k du0).b] W fun e w'=>e = .returned (.bool true)∧w'=W):=HP;clear HU HP hu hp HF;generalize (ls.getD k du0).a=x at *;generalize (ls.getD k du0).b=y at *;go_wp2_with fail;refine (HU2.o _).mono ?_;rintro e w2 ⟨rfl,hw2⟩;subst w2;go_wp2_with fail;refine (HP2.o _).mono ?_;rintro e w2 ⟨rfl,hw2⟩;subst w2;go_wp2_with fail;go_roundw
      case rel=>exact ⟨k+1,by omega,by go_num,HF2.o,HBA.o _⟩
      case measure=>simp [intOf];omega
     ·rw [decide_eq_false hp] at HP;have HN:Hid (¬ Fits ls):=fun h=>hp (h k (by rw [HLEN.o];exact hlt)).2;have HU2:Hid (∀ W,Calls Tryz.prog 135 #[zI 1,zI 10000000,zI (ls.getD k du0).a] W fun e w'=>e = .returned (.bool true)∧w'=W):=HU;have HP2:Hid (∀ W,Calls Tryz.prog 135 #[zI 1,zI 100000,zI (ls.getD k du0).b] W fun e w'=>e = .returned (.bool false)∧w'=W):=HP;clear HU HP hu hp HF;generalize (ls.getD k du0).a=x at *;generalize (ls.getD k du0).b=y at *;go_wp2_with fail;refine (HU2.o _).mono ?_;rintro e w2 ⟨rfl,hw2⟩;subst w2;go_wp2_with fail;refine (HP2.o _).mono ?_;rintro e w2 ⟨rfl,hw2⟩;subst w2;go_wp2_with fail;go_ret;exact ⟨_,rfl,.inr (.inl ⟨HS.o,HN.o,rfl⟩),HBA.o _⟩
    ·rw [decide_eq_false hu] at HU;have HN:Hid (¬ Fits ls):=fun h=>hu (h k (by rw [HLEN.o];exact hlt)).1;have HU2:Hid (∀ W,Calls Tryz.prog 135 #[zI 1,zI 10000000,zI (ls.getD k du0).a] W fun e w'=>e = .returned (.bool false)∧w'=W):=HU;clear HU HP hu HF;generalize (ls.getD k du0).a=x at *;generalize (ls.getD k du0).b=y at *;go_wp2_with fail;refine (HU2.o _).mono ?_;rintro e w2 ⟨rfl,hw2⟩;subst w2;go_wp2_with fail;go_ret;exact ⟨_,rfl,.inr (.inl ⟨HS.o,HN.o,rfl⟩),HBA.o _⟩
   ·obtain rfl:k=n:=by omega
    have hdl:decide ((k:Int)<(k:Int))=false:=by simp
    have HFT:Hid (Fits ls):=fun i hi=>HF.o i (by rw [HLEN.o] at hi;exact hi);have HR:=HRS.o wr hb;clear HF HIU HIP HRS hb;have HE:Hid (Ends ls↔(ls.getD (k - 1) du0).a=10000000):=by show Ends ls↔_;unfold Ends;rw [HLEN.o]
    have HC1:Hid (∀ W,Below wr.heap.size wr W→W.cell? ⟨b,off+(k - 1)*2,none⟩=some (zI (ls.getD (k - 1) du0).a)):=fun W hW=>((HB.o.trans (hW.mono HB.o.size)).cell (p:=⟨b,off+(k - 1)*2,none⟩) hbl).trans (HC.o (k - 1) (by omega)).1;have hsub:((k:Int) - 1)=((k - 1:Nat):Int):=by omega
    have hjm:k - 1<k:=by omega
    by_cases hri:Rises ls
    ·rw [decide_eq_true hri] at HR;have HR2:Hid (Calls Tryz.prog 136 #[.slice (some ⟨b,off,none⟩) k cap] wr fun e w'=>e = .returned (.bool true)∧Below wr.heap.size wr w'):=HR;have HRI:Hid (Rises ls):=hri;clear HR hri;go_wp2_with fail;refine HR2.o.mono ?_;rintro e w2 ⟨rfl,hw2⟩;have c1:=HC1.o w2 hw2;have HB2:=shB HB hw2;clear hw2 HR2;by_cases he:(ls.getD (k - 1) du0).a=10000000
     ·have HRT:Hid (Right ls):=⟨HS.o,HFT.o,HRI.o,HE.o.2 he⟩
      have hne:((ls.getD (k - 1) du0).a != 10000000)=false:=by rw [he];rfl
      clear he HE HC1;generalize (ls.getD (k - 1) du0).a=y at *;generalize k - 1=j1 at *;go_wp2_with fail;go_ret;exact ⟨_,rfl,.inr (.inr (.inr ⟨HRT.o,rfl⟩)),HB2.o⟩
     ·have HN:Hid (¬ (Rises ls∧Ends ls)):=fun h=>he (HE.o.1 h.2);have hne:((ls.getD (k - 1) du0).a != 10000000)=true:=by simpa using he
      clear he HE HC1;generalize (ls.getD (k - 1) du0).a=y at *;generalize k - 1=j1 at *;go_wp2_with fail;go_ret;exact ⟨_,rfl,.inr (.inr (.inl ⟨HS.o,HFT.o,HN.o,rfl⟩)),HB2.o⟩
    ·rw [decide_eq_false hri] at HR;have HR2:Hid (Calls Tryz.prog 136 #[.slice (some ⟨b,off,none⟩) k cap] wr fun e w'=>e = .returned (.bool false)∧Below wr.heap.size wr w'):=HR;have HN:Hid (¬ (Rises ls∧Ends ls)):=fun h=>hri h.1;clear HR hri;go_wp2_with fail;refine HR2.o.mono ?_;rintro e w2 ⟨rfl,hw2⟩;have HB2:=shB HB hw2;clear hw2 HR2 HE HC1;generalize k - 1=j1 at *;go_wp2_with fail;go_ret;exact ⟨_,rfl,.inr (.inr (.inl ⟨HS.o,HFT.o,HN.o,rfl⟩)),HB2.o⟩
 ·have HS:Hid (¬ Sized ls):=by show ¬ (1≤ls.length∧ls.length≤8);rw [hlen];exact hs
  have hnm:n≤9223372036854775807:=by unfold maxLen at hn;omega
  clear hr hlen hn;by_cases h0:n=0
  ·subst h0;clear hs hnm;go_enter Tryz.func113,Tryz.ntmps113;go_wp2_with fail;go_ret;exact ⟨_,rfl,.inl ⟨HS.o,rfl⟩,Below.refl _ _⟩
  ·have hd0:((n:Int) == 0)=false:=by simp;omega
   have hd8:decide ((8:Int)<(n:Int))=true:=by simp;omega
   clear hs h0;go_enter Tryz.func113,Tryz.ntmps113;go_wp2_with fail;go_ret;exact ⟨_,rfl,.inl ⟨HS.o,rfl⟩,Below.refl _ _⟩
open Go.Shelf
attribute [local go_sem] Oper.semAt_some
theorem blk_own {β:Type} (B:Nat) (t:TypeId) (f:β→Array Value):Own (fun s W=>Blk W B (f s) t):=fun s X Y row hs hg hrow=>by
 have hl:=hs.lt;refine (hg.block B hl fun e'=>?_).trans hs;obtain ⟨o,ho,hc⟩:=hrow B e'.symm;rw [show X.heap[B]?=_ from hs] at ho;cases ho;cases hc
def boxes (w:World) (v:Value) (x u:Int):World:=((w.alloc (.cells #[v] 28)).alloc (.cells #[zI x] 3)).alloc (.cells #[zI u] 3)
theorem boxes_size (w:World) (v:Value) (x u:Int):(boxes w v x u).heap.size=w.heap.size+3:=by unfold boxes;simp
theorem boxes_t (w:World) (v:Value) (x u:Int):Boxed (boxes w v x u) w.heap.size 28 v:=((Boxed.new w _ v).alloc _).alloc _
theorem boxes_x (w:World) (v:Value) (x u:Int):Boxed (boxes w v x u) (w.heap.size+1) 3 (zI x):=by
 have h:=(Boxed.new (w.alloc (.cells #[v] 28)) 3 (zI x)).alloc (.cells #[zI u] 3);rw [World.size_alloc] at h;exact h
theorem boxes_u (w:World) (v:Value) (x u:Int):Boxed (boxes w v x u) (w.heap.size+1+1) 3 (zI u):=by
 have h:=Boxed.new ((w.alloc (.cells #[v] 28)).alloc (.cells #[zI x] 3)) 3 (zI u);rw [World.size_alloc,World.size_alloc] at h;exact h
theorem boxes_bel {n:Nat} {w0 w:World} (h:Below n w0 w) (hn:n≤w.heap.size) (v:Value) (x u:Int):Below n w0 (boxes w v x u):=((h.alloc hn _).alloc (by simp;omega) _).alloc (by simp;omega) _
theorem boxes_boxed {w:World} {B:Nat} {t:TypeId} {o:Value} (h:Boxed w B t o) (v:Value) (x u:Int):Boxed (boxes w v x u) B t o:=((h.alloc _).alloc _).alloc _
theorem lines_in (F:Fence) (n:Nat) (hF:F.fn 144) (hro:F.round=none) (a:Option Addr) (len cap:Nat) (x u:Int) (w:World) :
  CallsIn F n Tryz.prog 144 #[.slice a len cap,zI x,zI u] w fun e w'=>e = .returned (.func (.func 154) #[] #[.pointer (some ⟨w.heap.size+1,0,none⟩),.pointer (some ⟨w.heap.size,0,none⟩),.pointer (some ⟨w.heap.size+1+1,0,none⟩)])∧w'=boxes w (.slice a len cap) x u:=by
 refine callsIn_of_wp Tryz.func144 rfl hF ?_ hro;simp only [Tryz.ntmps144,List.size_toArray,List.length_cons,List.length_nil,Nat.reduceAdd,Nat.reduceSub,Array.replicate_succ,Array.replicate_zero,List.push_toArray,List.append_toArray,List.nil_append,List.cons_append]
 gi_wp2
 go_ret;exact ⟨rfl,rfl⟩
structure Lnd (w:World) (n₀ B b off len cap:Nat) (ls:List Du) (x u:Int):Prop where
 right:Right ls
 many:ls.length=len
 x0:0≤x
 x1:x≤10000000
 u0:0≤u
 u1:x+u≤10000000
 bt:Boxed w B 28 (.slice (some ⟨b,off,none⟩) len cap)
 bx:Boxed w (B+1) 3 (zI x)
 bu:Boxed w (B+1+1) 3 (zI u)
 hb:b<n₀
 hn:n₀≤w.heap.size
 row:∀ i,i<len→w.cell? ⟨b,off+i*2,none⟩=some (zI (ls.getD i du0).a)∧w.cell? ⟨b,off+i*2+1,none⟩=some (zI (ls.getD i du0).b)
theorem lines_stops (F:Fence) (n:Nat) (hF:F.fn 154) (hro:F.round=none) (hn:1≤n) (n₀ B b off len cap:Nat) (ls:List Du) (x u:Int) (w:World) (h:Lnd w n₀ B b off len cap ls x u) :
  SeqStopsK F n Tryz.prog 154 #[.pointer (some ⟨B+1,0,none⟩),.pointer (some ⟨B,0,none⟩),.pointer (some ⟨B+1+1,0,none⟩)] encL (Kq n₀ B (B+3)) (fun ys=>lns ys=billK ls x (x+u) len) (fun pre=>lns pre <+: billK ls x (x+u) len) len w:=fun l J Jx W hW hJ _ hY h0=>
 lines1_in F n hF hro hn l (B+1) B (B+1+1) n₀ B (B+3) b off len cap W.heap.size ls x u J Jx h.right h.many ⟨h.x0,h.x1⟩ ⟨h.u0,h.u1⟩ hJ hY W
  (boxed_same h.bx (hW.block _ h.bx.lt)) (boxed_same h.bt (hW.block _ h.bt.lt)) (boxed_same h.bu (hW.block _ h.bu.lt)) ⟨by omega,by omega⟩ ⟨by omega,by omega⟩ h.hb (Nat.le_trans h.hn hW.size)
  (fun i hi=>⟨(hW.cell (p:=⟨b,off+i*2,none⟩) (Nat.lt_of_lt_of_le h.hb h.hn)).trans (h.row i hi).1,(hW.cell (p:=⟨b,off+i*2+1,none⟩) (Nat.lt_of_lt_of_le h.hb h.hn)).trans (h.row i hi).2⟩) h0
theorem Kq.refl (n lo hi:Nat) (W:World):Kq n lo hi W W:=⟨Below.refl _ _,fun _ _ _=>rfl⟩
theorem Kq.alloc {n lo hi:Nat} {W W':World} (h:Kq n lo hi W W') (o:Obj) (hn:n≤W'.heap.size) (hs:hi≤W'.heap.size):Kq n lo hi W (W'.alloc o):=⟨h.1.alloc hn o,fun j a b=>(Below.heap_alloc W' o j (by omega)).trans (h.2 j a b)⟩
theorem Kq.set {n lo hi:Nat} {W W':World} (h:Kq n lo hi W W') (B i:Nat) (v:Value) (hB:n≤B) (hl:B<lo∨hi≤B):Kq n lo hi W (W'.setCell ⟨B,i,none⟩ v):=⟨h.1.setCell (p:=⟨B,i,none⟩) hB v,fun j a b=>(Below.heap_setCell W' ⟨B,i,none⟩ v j (by show j≠B;omega)).trans (h.2 j a b)⟩
theorem kq_b {n lo hi:Nat} {w:World} (hn:n≤w.heap.size) (hh:hi≤w.heap.size) (W:World) (l:Nat) (o o':Obj) (hl:w.heap.size≤l) (h:W.heap[l]?=some o) (hc:o.isCells=false) (hw:o.isWalk=false):Kq n lo hi W (W.putObj l o'):=⟨belowK_b hn W l o o' hl h hc hw,fun j a b=>(grownBy_putObj' W l o').block j (by have:=(Array.getElem?_eq_some_iff.1 h).1;omega) (fun e=>by cases e;omega)⟩
theorem lnd_of {w w1:World} (n₀ B b off len cap:Nat) {ls:List Du} {x u:Int} (hr:Right ls) (hl:ls.length=len) (hx:0≤x∧x≤10000000) (hu:0≤u∧x+u≤10000000) (hB:w1.heap.size=B) (hb:b<n₀) (hn:n₀≤w1.heap.size)
  (hbel:Below n₀ w w1) (hc:∀ i,i<len→w.cell? ⟨b,off+i*2,none⟩=some (zI (ls.getD i du0).a)∧w.cell? ⟨b,off+i*2+1,none⟩=some (zI (ls.getD i du0).b)):Lnd (boxes w1 (.slice (some ⟨b,off,none⟩) len cap) x u) n₀ B b off len cap ls x u:=by
 subst hB;have h2:=boxes_bel hbel hn (.slice (some ⟨b,off,none⟩) len cap) x u;exact ⟨hr,hl,hx.1,hx.2,hu.1,hu.2,boxes_t _ _ _ _,boxes_x _ _ _ _,boxes_u _ _ _ _,hb,by rw [boxes_size];omega,fun i hi=>⟨(h2.cell (p:=⟨b,off+i*2,none⟩) hb).trans (hc i hi).1,(h2.cell (p:=⟨b,off+i*2+1,none⟩) hb).trans (hc i hi).2⟩⟩
end tar
namespace acc
open tar (Du)
open Go.RowKit
def KcRekey:Prop:=∀ (W:World) (x:Ac) (p:Option Addr) (len cap:Nat),ACame W x p len cap→Calls Tryz.prog 50 #[x.v p len cap] W fun e w'=>BPost W (RekeyIs x) e w'
end acc
end Go.Proofs.YtdpfnedfakgolaaGreatDoor
