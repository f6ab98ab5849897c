import Derived.Test.YtdpfnedfakgolaaGreatDoorVVRnt19
import Derived.Test.YtdpfnedfakgolaaGreatDoorVVRnt21
set_option linter.unusedVariables false
set_option linter.unusedSimpArgs false
set_option maxHeartbeats 4000000
set_option maxRecDepth 100000
namespace Go.Proofs.YtdpfnedfakgolaaGreatDoor
namespace vnd
open book (Ev ev0 Cm cm0 So so0 Sees)
open acc (Ac Tm Bi)
open ora (Pr)
open cell (Wr RowU RowW)
open rcp (Rc rc0)
open Go.RowKit
structure Od where
 k:Int
 m:Int
 a:Int
 b:Int
 d:Int
def od0:Od:=⟨0,0,0,0,0⟩
def wf5 (x:Od):Prop:=(Lit.int .i64 x.k).wf=true∧(Lit.int .i64 x.m).wf=true∧(Lit.int .i64 x.a).wf=true∧(Lit.int .i64 x.b).wf=true∧(Lit.int .i64 x.d).wf=true
def ServedIs (t:Tm) (c:List Int) (o:List Pr) (x:Od) (ls:List Wr) (o':List Pr) (r:Rc) (f:Int):Prop:=
 (check.pick x.k 8=0∧ChaIs t c (check.pick x.m 3) (1+check.pick x.a 100000) (check.pick x.b 1000) ls f∧o'=o∧r=rc0) ∨
 (check.pick x.k 8=1∧TokIs 3 t c o (check.pick x.m 3) 0 (check.pick x.b 12) (check.pick x.d 65536) ls o' r f) ∨
 (check.pick x.k 8=2∧TokIs 4 t c o (check.pick x.m 3) 0 0 (check.pick x.d 65536) ls o' r f) ∨
 ((check.pick x.k 8≠0∧check.pick x.k 8≠1∧check.pick x.k 8≠2)∧TokIs 2 t c o (check.pick x.m 3) (1+check.pick x.a 1000000) (check.pick x.b 12) (check.pick x.d 65536) ls o' r f)
def ServePost (w:World) (ao:Option Addr) (no:Nat) (R:List Wr→List Pr→Rc→Int→Prop) (e:Ending) (w':World):Prop:=∃ p m cp ls p5 n5 c5 o' r f,e = .returned (.tuple #[.slice p m cp,.agg #[.slice p5 n5 c5],rcp.Rc.v r,zI f])∧R ls o' r f∧RowW w' p m ls∧(∀ x,p=some x→w.heap.size≤x.block)∧m≤cp∧m≤100000∧ora.RowP w' p5 n5 o'∧(p5=none→c5=0)∧n5≤c5∧(0<n5→∀ y,p5=some y→w.heap.size≤y.block∨(0<no∧ao=some y))∧Below w.heap.size w w'
theorem rowW_updK {w W:World} {g:Nat} {cs:Array Value} {T:TypeId} {p:Option Addr} {n:Nat} {l:List Wr} (h:RowW w p n l) (hU:Upd w W g cs T) (hg:0<n→∀ y,p=some y→y.block≠g):RowW W p n l:=by
 refine ⟨h.1,?_⟩;rcases h.2 with h0 | ⟨b,off,rfl,hc⟩
 ·exact .inl h0
 ·refine .inr ⟨b,off,rfl,fun i hi=>?_⟩;have hne:b≠g:=hg (by omega) _ rfl;rw [hU.cell _ hne rfl,hU.cell _ hne rfl];exact hc i hi
theorem rowW_ltK {w:World} {p:Option Addr} {n:Nat} {l:List Wr} (h:RowW w p n l):0<n→∀ y,p=some y→y.block<w.heap.size:=fun hn y hy=>by
 rcases h.2 with h0 | ⟨b,off,rfl,hc⟩
 ·omega
 ·cases hy;exact World.block_lt_of_cell? w _ (hc 0 hn).1
theorem rowP_ltK {w:World} {p:Option Addr} {n:Nat} {l:List Pr} (h:ora.RowP w p n l):0<n→∀ y,p=some y→y.block<w.heap.size:=fun hn y hy=>by
 obtain ⟨b,off,h8,l8,_⟩:=h.at hn;rw [h8] at hy;cases hy;exact l8
theorem rowP_updK {w W:World} {g:Nat} {cs:Array Value} {T:TypeId} {p:Option Addr} {n:Nat} {l:List Pr} (h:ora.RowP w p n l) (hU:Upd w W g cs T) (hg:0<n→∀ y,p=some y→y.block≠g):ora.RowP W p n l:=by
 refine ⟨h.1,?_⟩;rcases h.2 with h0 | ⟨b,off,rfl,hc⟩
 ·exact .inl h0
 ·refine .inr ⟨b,off,rfl,fun i hi=>?_⟩;have hne:b≠g:=hg (by omega) _ rfl;obtain ⟨h0,h1,h2,h3⟩:=hc i hi;exact ⟨by rw [hU.cell _ hne rfl];exact h0,by rw [hU.cell _ hne rfl];exact h1,by rw [hU.cell _ hne rfl];exact h2,by rw [hU.cell _ hne rfl];exact h3⟩
def KvGrant (w0:World):Prop:=∀ (W:World) (t:Tm) (pt:Option Addr) (lt ct:Nat) (a:Option Addr) (n cap:Nat) (c:List Int) (ao:Option Addr) (no ko:Nat) (o:List Pr) (me mo dr:Int),Below w0.heap.size w0 W→acc.TCame W t pt lt ct→Dk W a n cap c→ora.Came W ao no ko o→(Lit.int .i64 me).wf=true→(Lit.int .i64 mo).wf=true→(Lit.int .i64 dr).wf=true→Calls Tryz.prog 20 #[t.v pt lt ct,.slice a n cap,.agg #[.slice ao no ko],zI me,zI mo,zI dr] W fun e w'=>TokGot W (TokIs 3 t c o me 0 mo dr) e w'
theorem KvGrant.up {w0 w:World} (K:KvGrant w0) (hb:Below w0.heap.size w0 w):KvGrant w:=fun W t pt lt ct a n cap c ao no ko o me mo dr hW=>K W t pt lt ct a n cap c ao no ko o me mo dr (bel_step hb hW)
def KvRekey (w0:World):Prop:=∀ (W:World) (t:Tm) (pt:Option Addr) (lt ct:Nat) (a:Option Addr) (n cap:Nat) (c:List Int) (ao:Option Addr) (no ko:Nat) (o:List Pr) (me dr:Int),Below w0.heap.size w0 W→acc.TCame W t pt lt ct→Dk W a n cap c→ora.Came W ao no ko o→(Lit.int .i64 me).wf=true→(Lit.int .i64 dr).wf=true→Calls Tryz.prog 21 #[t.v pt lt ct,.slice a n cap,.agg #[.slice ao no ko],zI me,zI dr] W fun e w'=>TokGot W (TokIs 4 t c o me 0 0 dr) e w'
theorem KvRekey.up {w0 w:World} (K:KvRekey w0) (hb:Below w0.heap.size w0 w):KvRekey w:=fun W t pt lt ct a n cap c ao no ko o me dr hW=>K W t pt lt ct a n cap c ao no ko o me dr (bel_step hb hW)
def KvSell (w0:World):Prop:=∀ (W:World) (t:Tm) (pt:Option Addr) (lt ct:Nat) (a:Option Addr) (n cap:Nat) (c:List Int) (ao:Option Addr) (no ko:Nat) (o:List Pr) (me te mo dr:Int),Below w0.heap.size w0 W→acc.TCame W t pt lt ct→Dk W a n cap c→ora.Came W ao no ko o→(Lit.int .i64 me).wf=true→(Lit.int .i64 te).wf=true→(Lit.int .i64 mo).wf=true→(Lit.int .i64 dr).wf=true→Calls Tryz.prog 22 #[t.v pt lt ct,.slice a n cap,.agg #[.slice ao no ko],zI me,zI te,zI mo,zI dr] W fun e w'=>TokGot W (TokIs 2 t c o me te mo dr) e w'
theorem KvSell.up {w0 w:World} (K:KvSell w0) (hb:Below w0.heap.size w0 w):KvSell w:=fun W t pt lt ct a n cap c ao no ko o me te mo dr hW=>K W t pt lt ct a n cap c ao no ko o me te mo dr (bel_step hb hW)
def KvReg:Prop:=∀ (W:World) (t:Tm) (pt:Option Addr) (lt ct:Nat) (a:Option Addr) (n cap:Nat) (c:List Int) (me:Int),acc.TCame W t pt lt ct→Dk W a n cap c→(Lit.int .i64 me).wf=true→Calls Tryz.prog 17 #[t.v pt lt ct,.slice a n cap,zI me] W fun e w'=>WrGot W (RegIs t c me) e w'
end vnd
namespace token
open words
open Go.RowKit
theorem wn_ok {a b c V:Nat} (h:WN a b c V):W3.ok ⟨a,b,c⟩∧W3.val ⟨a,b,c⟩=V:=by
 have h1:=h.a1;have h2:=h.b1;have h3:=h.c1;have h4:=h.val;refine ⟨⟨⟨by show (0:Int)≤a;omega,by show (a:Int)<_;omega⟩,⟨by show (0:Int)≤b;omega,by show (b:Int)<_;omega⟩,by show (0:Int)≤c;omega,by show (c:Int)<_;omega⟩,?_⟩;unfold bigV at h4;unfold W3.val;simp only;omega
theorem wn_of {X:W3} (h:X.ok) {V:Nat} (hV:X.val=V):∃ a b c:Nat,X=⟨a,b,c⟩∧WN a b c V:=by
 obtain ⟨x,y,z⟩:=X;obtain ⟨⟨h0,h0'⟩,⟨h1,h1'⟩,h2,h2'⟩:=h;simp only at *;obtain ⟨a,rfl⟩:=Int.eq_ofNat_of_zero_le h0;obtain ⟨b,rfl⟩:=Int.eq_ofNat_of_zero_le h1;obtain ⟨c,rfl⟩:=Int.eq_ofNat_of_zero_le h2;refine ⟨a,b,c,rfl,by omega,by omega,by omega,?_⟩;unfold W3.val at hV;unfold bigV;simp only at hV;omega
theorem times_wn (a b c V m:Nat) (w:World) (h:WN a b c V) (hm:m<4294967296) (hv:V*m<79228162514264337593543950336) :
  Calls Tryz.prog 53 #[.agg #[.int .u32 (a:Int),.int .u32 (b:Int),.int .u32 (c:Int)],.int .u32 (m:Int)] w fun e w'=>
   ∃ (a' b' c':Nat) (o:Int),e = .returned (.tuple #[.agg #[.int .u32 (a':Int),.int .u32 (b':Int),.int .u32 (c':Int)],.int .u32 o])∧WN a' b' c' (V*m)∧Below w.heap.size w w':=by
 have hk:=wn_ok h;have ht:=times_any ⟨a,b,c⟩ m w hk.1 (by omega) (by omega)
 obtain ⟨a',b',c',he,hn⟩:=wn_of (X:=timesW ⟨a,b,c⟩ m) (carry3_ok _ _ _) (V:=V*m) (by
  rw [times_mod,hk.2];unfold top
  rw [← Int.natCast_mul,Int.emod_eq_of_lt (by omega) (by omega)])
 refine ht.mono ?_;rintro e w' ⟨rfl,hb⟩;exact ⟨a',b',c',_,by rw [he],hn,hb⟩
end token
namespace disk
open Go.RowKit cell
def EPost (J:Nat→World→Prop) (c:List Int) (e:Ending) (w':World):Prop:=
 ∃ x f k,e = .returned (.tuple #[zI x,zI f])∧J k w'∧((¬ May c∧x=0∧f=1)∨(May c∧lenAt c (repD c).2<0∧x=0∧f=3)∨(May c∧lenAt c (repD c).2=0∧repD c=itD c k∧x=((repD c).2:Int)∧f=0))
theorem len_zero {c:List Int} {p:Nat} (h:c.getD p 0=0):lenAt c p=0:=by unfold lenAt;rw [if_pos (.inr h)]
theorem len_end {c:List Int} {p:Nat} (h:p=c.length):lenAt c p=0:=by unfold lenAt;rw [if_pos (.inl h)]
theorem len_bad {c:List Int} {p:Nat} (hp:p<c.length) (h0:c.getD p 0≠0) (h:64<c.getD p 0∨(c.length:Int)≤p+c.getD p 0):lenAt c p<0:=by
 unfold lenAt;rw [if_neg (by omega)];by_cases h1:64<c.getD p 0
 ·rw [if_pos h1];decide
 ·rw [if_neg h1,if_pos (by omega)];decide
theorem get_wd {c:List Int} (hw:∀ x∈c,0≤x∧x<4294967296) (p:Nat):0≤c.getD p 0∧c.getD p 0<4294967296:=by
 by_cases h:p<c.length
 ·have e:c.getD p 0=c[p]:=by simp [List.getD,h]
  rw [e];exact hw _ (List.getElem_mem h)
 ·have e:c.getD p 0=0:=by simp [List.getD,Nat.le_of_not_lt h]
  rw [e];decide
theorem rowU_part {W:World} {b o n:Nat} {c:List Int} (h:RowU W (some ⟨b,o,none⟩) n c) {p m:Nat} (hm:(c.getD p 0).toNat=m) (hp:p+m<n):RowU W (some ⟨b,o+(p+1),none⟩) m (recAt c p):=by
 refine ⟨rec_len hm (by rw [h.1];exact hp),.inr ⟨b,o+(p+1),rfl,fun i hi=>?_⟩⟩;obtain ⟨b',o',e,_,hc⟩:=h.at (by omega);cases e;rw [rec_at hm hi,show o+(p+1)+i=o+(p+1+i) by omega];exact hc (p+1+i) (by omega)
theorem each_any (F:Nat) (caps:Array Value) (J:Nat→World→Prop) (a:Option Addr) (n cap:Nat) (c:List Int) (w:World) (hJ:∀ k W,J k W→RowU W a n c) (h0:J 0 w) (hcap:n≤cap) (hw:∀ x∈c,0≤x∧x<4294967296) (hK:∀ args w,(callFunc F args).run Tryz.prog w = .ok (.enter F args) w)
  (hf:∀ (k p m b o:Nat) (W:World),J k W→(itD c k).2=p→itD c (k+1)=((itD c k).1++[recAt c p],p+m+1)→RowU W (some ⟨b,o,none⟩) m (recAt c p)→1≤m→m≤64→p≤2048→Calls Tryz.prog F (#[.slice (some ⟨b,o,none⟩) m m]++caps) W fun e w'=>e = .returned (.tuple #[])∧J (k+1) w') :
  Calls Tryz.prog 106 #[.slice a n cap,.func (.func F) #[] caps] w fun e w'=>EPost J c e w':=by
 have hcl:=(hJ 0 w h0).1;have H0:Hid (J 0 w):=h0;have HN:Hid (c.length=n):=hcl;by_cases hmay:1≤n∧n≤2048
 ·obtain ⟨b,o,rfl,_,_⟩:=(hJ 0 w h0).at (by omega);have HJ:Hid (∀ k W,J k W→RowU W (some ⟨b,o,none⟩) n c):=hJ
  have HCL:Hid (∀ k W,J k W→∀ j,j<n→W.cell? ⟨b,o+j,none⟩=some (.int .u32 (c.getD j 0))):=fun k W h j hj=>by
   obtain ⟨b',o',e,_,hc⟩:=(hJ k W h).at (by omega);cases e;exact hc j hj
  have HW:Hid (∀ p,0≤c.getD p 0∧c.getD p 0<4294967296):=get_wd hw;have HF:Hid (∀ (k p m b o:Nat) (W:World),J k W→(itD c k).2=p→itD c (k+1)=((itD c k).1++[recAt c p],p+m+1)→RowU W (some ⟨b,o,none⟩) m (recAt c p)→1≤m→m≤64→p≤2048→Calls Tryz.prog F (#[.slice (some ⟨b,o,none⟩) m m]++caps) W fun e w'=>e = .returned (.tuple #[])∧J (k+1) w'):=hf;have HMY:Hid (May c):=⟨by omega,by omega⟩
  obtain ⟨hn1,hn2⟩:=hmay;have d1:decide ((n:Int)<1)=false:=by simp;omega
  have d2:decide ((2048:Int)<(n:Int))=false:=by simp;omega
  clear hJ hf hw hcl h0;go_enter Tryz.func106,Tryz.ntmps106;go_wp2_with fail;go_loopw [6] (fun v6 wr=>∃ (k p:Nat),p≤n∧v6=zI (p:Int)∧(itD c k).2=p∧J k wr) (fun v6 _=>n+1 - (intOf v6).toNat)
  case atStart=>exact ⟨0,0,Nat.zero_le _,rfl,rfl,H0.o⟩
  case round=>
   obtain ⟨k,p,hp,rfl,hk,hj⟩:=hrel;have HJK:Hid (J k wr):=hj;have HK:Hid ((itD c k).2=p):=hk;clear hj hk H0;by_cases hpn:p<n
   ·have k2:=HCL.o k wr HJK.o p hpn;have hz:=HW.o p;have e1:decide ((p:Int)<(n:Int))=true:=by simp;omega
    by_cases hz0:c.getD p 0=0
    ·have HL0:Hid (lenAt c p=0):=len_zero hz0
     have HE:Hid (EPost J c (.returned (.tuple #[zI (p:Int),zI 0])) wr):=by
      have hd:¬ 0<lenAt c (itD c k).2:=by rw [HK.o,HL0.o];decide
      have hr:=rep_of hd;exact ⟨_,_,k,rfl,HJK.o,.inr (.inr ⟨HMY.o,by rw [hr,HK.o];exact HL0.o,hr,by rw [hr,HK.o],rfl⟩)⟩
     rw [hz0] at k2;clear hz hz0 HJ HCL HW HF HK HJK HL0;go_wp2_with fail;go_ret2;exact HE.o
    ·by_cases hbad:64<c.getD p 0∨(n:Int)≤p+c.getD p 0
     ·have HE:Hid (EPost J c (.returned (.tuple #[zI 0,zI 3])) wr):=by
       have hl:=len_bad (c:=c) (p:=p) (by rw [HN.o];exact hpn) hz0 (by rw [HN.o];exact hbad);have hd:¬ 0<lenAt c (itD c k).2:=by rw [HK.o];omega
       exact ⟨_,_,k,rfl,HJK.o,.inr (.inl ⟨HMY.o,by rw [rep_of hd,HK.o];exact hl,rfl,rfl⟩)⟩
      have e0:(c.getD p 0 != 0)=true:=by simpa using hz0
      clear HJ HCL HW HF HK HJK;generalize c.getD p 0=z at *;obtain ⟨hz1,hz2⟩:=hz;by_cases h64:64<z
      ·have e3:decide ((64:Int)<z)=true:=by simpa using h64
       clear hbad;go_wp2_with fail;go_ret2;exact HE.o
      ·have e3:decide ((64:Int)<z)=false:=by simpa using h64
       have e4:decide ((n:Int)<(p:Int)+1+z)=true:=by simp;omega
       clear hbad;go_wp2_with fail;go_ret2;exact HE.o
     ·obtain ⟨m,hm⟩:∃ m:Nat,c.getD p 0=(m:Int):=⟨(c.getD p 0).toNat,by omega⟩
      have hgm:(c.getD p 0).toNat=m:=by rw [hm];simp
      have hm1:1≤m:=by omega
      have hm2:m≤64:=by omega
      have hpm:p+m<n:=by omega
      have hla:lenAt c p=(m:Int):=by rw [len_of (by omega) (by omega) (by rw [HN.o];omega),hm]
      have HIT:Hid (itD c (k+1)=((itD c k).1++[recAt c p],p+m+1)):=by
       have h:=it_live (c:=c) (k:=k) (by rw [HK.o,hla];omega);rw [HK.o,hla,Int.toNat_natCast] at h;exact h
      have HCC:Hid (Calls Tryz.prog F (#[.slice (some ⟨b,o+(p+1),none⟩) m m]++caps) wr fun e w'=>e = .returned (.tuple #[])∧J (k+1) w'):=HF.o k p m b (o+(p+1)) wr HJK.o HK.o HIT.o (rowU_part (HJ.o k wr HJK.o) hgm hpm) hm1 hm2 (by omega);rw [hm] at k2;have e0:((m:Int) != 0)=true:=by simp;omega
      have e3:decide ((64:Int)<(m:Int))=false:=by simp;omega
      have e4:decide ((n:Int)<(p:Int)+1+(m:Int))=false:=by simp;omega
      have hc1:p+1<cap:=by omega
      clear hz hz0 hbad hm hgm hla HF HJ HW HCL;go_wp2_with fail;refine HCC.o.mono ?_;rintro e w1 ⟨rfl,hj1⟩;have HJ1:Hid (J (k+1) w1):=hj1;clear hj1;go_wp2_with fail;go_roundw
      case rel=>exact ⟨k+1,p+m+1,by omega,by go_num,by rw [HIT.o],HJ1.o⟩
      case measure=>simp [intOf];omega
   ·have e1:decide ((p:Int)<(n:Int))=false:=by simp;omega
    have HE:Hid (EPost J c (.returned (.tuple #[zI (p:Int),zI 0])) wr):=by
     have hl:lenAt c p=0:=len_end (by rw [HN.o];omega);have hd:¬ 0<lenAt c (itD c k).2:=by rw [HK.o,hl];decide
     have hr:=rep_of hd;exact ⟨_,_,k,rfl,HJK.o,.inr (.inr ⟨HMY.o,by rw [hr,HK.o];exact hl,hr,by rw [hr,HK.o],rfl⟩)⟩
    clear HJ HCL HW HF HK HJK;go_wp2_with fail;go_ret2;exact HE.o
 ·have HE:Hid (EPost J c (.returned (.tuple #[zI 0,zI 1])) w):=⟨0,1,0,rfl,H0.o,.inl ⟨fun h=>hmay ⟨by rw [← hcl];exact h.1,by rw [← hcl];exact h.2⟩,rfl,rfl⟩⟩
  clear hJ hf hw h0 H0 hcl HN;go_enter Tryz.func106,Tryz.ntmps106;by_cases h1:1≤n
  ·have d1:decide ((n:Int)<1)=false:=by simp;omega
   have d2:decide ((2048:Int)<(n:Int))=true:=by simp;omega
   go_wp2_with fail;go_ret2;exact HE.o
  ·have d1:decide ((n:Int)<1)=true:=by simp;omega
   go_wp2_with fail;go_ret2;exact HE.o
end disk
namespace acc
open tar (Du du0 Came RowD Ld PairT)
open Go.RowKit
theorem open_may {m:Int} (h:0≤m∧m≤49):AMay ⟨m,0,1,0,0,-1,[]⟩:=by
 unfold AMay deb.Mays deb.DFits;simp;omega
theorem kopen:KcOpen:=by
 intro w m hm;have HPM:Hid (∀ W,Calls Tryz.prog 119 #[.agg #[zI m,zI 0,zI 1,zI 0,zI 0,zI (-1),zS]] W fun e w'=>MayPost W ⟨m,0,1,0,0,-1,[]⟩ e w'):=fun W=>pmay ⟨m,0,1,0,0,-1,[]⟩ none 0 0 W (deb.came_nil W);clear hm;obtain ⟨W0,HWW,H0r,H0n,H0B,-⟩:=sh2 w #[zI 0,zI 0,zI 0,zI 0,zI 0,zI 0,zS] 61 #[zI m,zI 0,zI 1,zI 0,zI 0,zI (-1),zS] 61;go_enter Tryz.func137,Tryz.ntmps137;go_upto_region 2 with fail
 rw [HWW.o];clear HWW
 go_wp2_with (first
  | (refine zqw rfl rfl rfl H0r zqu61 ?_)
  | (refine zqw rfl rfl rfl H0n zqu61 ?_)
  | fail)
 refine (HPM.o _).mono ?_;rintro e w1 ⟨r,rfl,hr,hb1⟩;have H1r:=shN H0r hb1;have H1n:=shN H0n hb1;have H1B:=shB H0B hb1;have hsw1:W0.heap.size≤w1.heap.size:=hb1.size;clear hb1 H0r H0n H0B;clear HPM;cases r with
 | false=>
  have HV:Hid (OpenIs m ac0 2):= .inr ⟨fun hh=>Bool.noConfusion (hr.2 (open_may hh)),rfl,rfl⟩;clear hr
  go_wp2_with (first
   | (refine zql rfl rfl rfl rfl zqu61 (by simp [Value.oneCell']) H1r rfl ?_)
   | (refine zqw rfl rfl rfl H1r zqu61 ?_)
   | (refine zqw rfl rfl rfl H1n zqu61 ?_)
   | fail)
  intro w1a hU;have H2r:Hid (Blk w1a (w.heap.size) #[zI 0,zI 0,zI 0,zI 0,zI 0,zI 0,zS] 61):=hU.blk;have H2n:=shK hU H1n (by omega);have H2B:=shV hU H1B (by omega);have hsw1a:w1a.heap.size=w1.heap.size:=hU.size;clear hU H1r H1n H1B;have Rr0:Hid (w1a.cell? ⟨w.heap.size,0,none⟩=some (zI 0)):=H2r.o.cell 0;have Rr1:Hid (w1a.cell? ⟨w.heap.size,1,none⟩=some (zI 0)):=H2r.o.cell 1;have Rr2:Hid (w1a.cell? ⟨w.heap.size,2,none⟩=some (zI 0)):=H2r.o.cell 2;have Rr3:Hid (w1a.cell? ⟨w.heap.size,3,none⟩=some (zI 0)):=H2r.o.cell 3;have Rr4:Hid (w1a.cell? ⟨w.heap.size,4,none⟩=some (zI 0)):=H2r.o.cell 4;have Rr5:Hid (w1a.cell? ⟨w.heap.size,5,none⟩=some (zI 0)):=H2r.o.cell 5;have Rr6:Hid (w1a.cell? ⟨w.heap.size,6,none⟩=some (zS)):=H2r.o.cell 6;go_wp2_with fail;exact bodyPost_ret (v:= .tuple #[.agg #[zI 0,zI 0,zI 0,zI 0,zI 0,zI 0,zS],zI 2]) (by simp [results,Tryz.results137,Rr0.o,Rr1.o,Rr2.o,Rr3.o,Rr4.o,Rr5.o,Rr6.o,go_sem]) rfl ⟨ac0,none,0,0,_,rfl,HV.o,deb.fresh_nil _ _,H2B.o⟩
 | true=>
  have HV:Hid (OpenIs m ⟨m,0,1,0,0,-1,[]⟩ 0):= .inl ⟨(hr.1 rfl).2.1,rfl,rfl⟩;clear hr
  go_wp2_with (first
   | (refine zql rfl rfl rfl rfl zqu61 (by simp [Value.oneCell']) H1r rfl ?_)
   | (refine zqw rfl rfl rfl H1r zqu61 ?_)
   | (refine zqw rfl rfl rfl H1n zqu61 ?_)
   | fail)
  intro w1a hU;have H2r:Hid (Blk w1a (w.heap.size) #[zI m,zI 0,zI 1,zI 0,zI 0,zI (-1),zS] 61):=hU.blk;have H2n:=shK hU H1n (by omega);have H2B:=shV hU H1B (by omega);have hsw1a:w1a.heap.size=w1.heap.size:=hU.size;clear hU H1r H1n H1B;obtain ⟨Rr0,Rr1,Rr2,Rr3,Rr4,Rr5,Rr6⟩:=shc7 H2r;go_wp2_with fail;exact bodyPost_ret (v:= .tuple #[.agg #[zI m,zI 0,zI 1,zI 0,zI 0,zI (-1),zS],zI 0]) (by simp [results,Tryz.results137,Rr0.o,Rr1.o,Rr2.o,Rr3.o,Rr4.o,Rr5.o,Rr6.o,go_sem]) rfl ⟨⟨m,0,1,0,0,-1,[]⟩,none,0,0,_,rfl,HV.o,deb.fresh_nil _ _,H2B.o⟩
end acc
namespace book
open Go.RowKit
open acc (Ac Tm Bi APost BPost TFault TRight OpenIs OweIs SellIs GrantIs RekeyIs wf6 ACame TCame fresh_updN fresh_drew came_lt)
def CuPost (w:World) (a:Option Addr) (bk:List Cm) (me:Int) (e:Ending) (w':World):Prop:=w'=w∧((∃ k g,FirstAt bk me k∧a=some ⟨g,0,none⟩∧e = .returned (.pointer (some ⟨g,k*8,none⟩)))∨(NoneAt bk me∧e = .panicked (thrown 18)))
theorem bcust (gW B:Nat) (t:Tm) (pt:Option Addr) (lt ct:Nat) (a:Option Addr) (n cap:Nat) (bk:List Cm) (me:Int) (w:World) (hw:Blk w gW #[.slice a n cap,.slice pt lt ct,zI t.ff,zI t.fb,zI t.db,zI t.al,.map (some B)] 182) (hm:MpI w B (mes bk)) (hn:bk.length=n) (ha:0<n→∃ g,a=some ⟨g,0,none⟩) (hs:n≤1000):Calls Tryz.prog 116 #[.pointer (some ⟨gW,0,none⟩),zI me] w fun e w'=>CuPost w a bk me e w':=by
 have HNO:Hid (∀ W,Calls Tryz.prog 134 #[zI 18] W fun e w'=>e = .panicked (thrown 18)∧w'=W):=fun W=>insist_no 18 (by decide) W;have q0:w.cell? ⟨gW,0,none⟩=some (.slice a n cap):=hw.cell 0;have q6:w.cell? ⟨gW,6,none⟩=some (.map (some B)):=hw.cell 6;have hlk:=lookI_run hm me;clear hw hm;cases hf:firstI (mes bk) me with
 | none=>
  rw [hf] at hlk;simp only [Option.getD_none,Option.isSome_none] at hlk;have HN:Hid (NoneAt bk me):=first_none hf;clear hf;go_enter Tryz.func116,Tryz.ntmps116;go_wp2_with fail;refine (HNO.o _).mono ?_;rintro e W9 ⟨rfl,rfl⟩;exact ⟨rfl,rfl,.inr ⟨HN.o,rfl⟩⟩
 | some k=>
  rw [hf] at hlk;simp only [Option.getD_some,Option.isSome_some] at hlk;have hfa:=first_some hf;have hkn:k<n:=by have:=hfa.1;omega
  obtain ⟨g,rfl⟩:=ha (by omega);have HN:Hid (FirstAt bk me k):=hfa;clear hf hfa ha hn;go_enter Tryz.func116,Tryz.ntmps116;go_wp2_with fail;go_ret;exact ⟨rfl,.inl ⟨k,g,HN.o,rfl,by first | rfl | simp⟩⟩
end book
namespace disk
open Go.RowKit cell
def KAppend:Prop:=∀ (W:World) (a:Option Addr) (n cap:Nat) (c:List Int) (b:Option Addr) (m cap2:Nat) (r:List Int),RowU W a n c→(a=none→cap=0)→n≤cap→n*4≤140737488351232→(∀ x∈c,0≤x∧x<4294967296)→RowU W b m r→(b=none→cap2=0)→m≤cap2→m*4≤140737488351232→(∀ x∈r,0≤x∧x<4294967296)→Calls Tryz.prog 71 #[.slice a n cap,.slice b m cap2] W fun e w'=>AppGot W c r e w'
end disk
namespace vnd
open disk (RepIs AppIs)
open book (Ev ev0 EMay evL evOf EncIs DecIs Cm cm0 So so0 BookIs Sees ECame FirstAt NoneAt)
open acc (Ac Tm Bi TCame ACame)
open cell (Wr RowU)
open Go.RowKit
theorem puntag (kd me mo dr:Int) (F:Value) (l:Bi) (b:Ac) (p:Option Addr) (ln cp:Nat) (cl am:Int) (w:World) (h:(kd=4∧cl=2∧am=b.rv)∨(kd≠4∧cl=0∧am=l.un)):Calls Tryz.prog 85 #[.agg #[zI kd,zI me,zI mo,zI dr,F],.agg #[zI l.id,zI l.te,zI l.de,zI l.fe,zI l.pr,zI l.ch,zI l.un],.agg #[zI b.me,zI b.rv,zI b.nx,zI b.mo,zI b.bo,zI b.fr,.slice p ln cp]] w fun e w'=>e = .returned (.agg #[zI cl,zI l.id,zI am,zI 0])∧Below w.heap.size w w':=by
 obtain ⟨W0,HWW,H0d,H0l,H0b,H0r,H0B,hs0⟩:=sh4 w #[zI kd,zI me,zI mo,zI dr,F] 138 #[zI l.id,zI l.te,zI l.de,zI l.fe,zI l.pr,zI l.ch,zI l.un] 48 #[zI b.me,zI b.rv,zI b.nx,zI b.mo,zI b.bo,zI b.fr,.slice p ln cp] 61 #[zI 0,zI 0,zI 0,zI 0] 54;go_enter Tryz.func85,Tryz.ntmps85;go_upto_region 1 with fail
 rw [HWW.o];clear HWW;rcases h with ⟨h1,rfl,rfl⟩ | ⟨h1,rfl,rfl⟩
 ·have d1:(kd == 4)=true:=by simpa using h1
  clear h1;have qd0:W0.cell? ⟨w.heap.size,0,none⟩=some (zI kd):=H0d.o.cell 0;have ql0:W0.cell? ⟨w.heap.size+1,0,none⟩=some (zI l.id):=H0l.o.cell 0;have qb1:W0.cell? ⟨w.heap.size+1+1,1,none⟩=some (zI b.rv):=H0b.o.cell 1
  go_wp2_with (first
   | (refine zql rfl rfl rfl rfl zqu54 (by simp [Value.oneCell']) H0r rfl ?_)
   | (refine zqw rfl rfl rfl H0d zqu138 ?_)
   | (refine zqw rfl rfl rfl H0l zqu48 ?_)
   | (refine zqw rfl rfl rfl H0b zqu61 ?_)
   | (refine zqw rfl rfl rfl H0r zqu54 ?_)
   | fail)
  intro W2 hU;have H1d:=shK hU H0d (by omega);have H1l:=shK hU H0l (by omega);have H1b:=shK hU H0b (by omega);have H1r:Hid (Blk W2 (w.heap.size+1+1+1) #[zI 2,zI l.id,zI b.rv,zI 0] 54):=hU.blk;have H1B:=shV hU H0B (by omega);have hsW2:W2.heap.size=W0.heap.size:=hU.size;clear hU H0d H0l H0b H0r H0B;clear qd0 ql0 qb1;have R0:Hid (W2.cell? ⟨w.heap.size+1+1+1,0,none⟩=some (zI 2)):=H1r.o.cell 0;have R1:Hid (W2.cell? ⟨w.heap.size+1+1+1,1,none⟩=some (zI l.id)):=H1r.o.cell 1;have R2:Hid (W2.cell? ⟨w.heap.size+1+1+1,2,none⟩=some (zI b.rv)):=H1r.o.cell 2;have R3:Hid (W2.cell? ⟨w.heap.size+1+1+1,3,none⟩=some (zI 0)):=H1r.o.cell 3;go_wp2_with fail;exact bodyPost_ret (v:= .agg #[zI 2,zI l.id,zI b.rv,zI 0]) (by simp [results,Tryz.results85,R0.o,R1.o,R2.o,R3.o,go_sem]) rfl ⟨rfl,H1B.o⟩
 ·have d1:(kd == 4)=false:=by simpa using h1
  clear h1;have qd0:W0.cell? ⟨w.heap.size,0,none⟩=some (zI kd):=H0d.o.cell 0;have ql0:W0.cell? ⟨w.heap.size+1,0,none⟩=some (zI l.id):=H0l.o.cell 0;have ql6:W0.cell? ⟨w.heap.size+1,6,none⟩=some (zI l.un):=H0l.o.cell 6
  go_wp2_with (first
   | (refine zql rfl rfl rfl rfl zqu54 (by simp [Value.oneCell']) H0r rfl ?_)
   | (refine zqw rfl rfl rfl H0d zqu138 ?_)
   | (refine zqw rfl rfl rfl H0l zqu48 ?_)
   | (refine zqw rfl rfl rfl H0b zqu61 ?_)
   | (refine zqw rfl rfl rfl H0r zqu54 ?_)
   | fail)
  intro W2 hU;have H1d:=shK hU H0d (by omega);have H1l:=shK hU H0l (by omega);have H1b:=shK hU H0b (by omega);have H1r:Hid (Blk W2 (w.heap.size+1+1+1) #[zI 0,zI l.id,zI l.un,zI 0] 54):=hU.blk;have H1B:=shV hU H0B (by omega);have hsW2:W2.heap.size=W0.heap.size:=hU.size;clear hU H0d H0l H0b H0r H0B;clear qd0 ql0 ql6;obtain ⟨R0,R1,R2,R3⟩:=shc4 H1r;go_wp2_with fail;exact bodyPost_ret (v:= .agg #[zI 0,zI l.id,zI l.un,zI 0]) (by simp [results,Tryz.results85,R0.o,R1.o,R2.o,R3.o,go_sem]) rfl ⟨rfl,H1B.o⟩
theorem pref (x:Int) (w:World):Calls Tryz.prog 83 #[zI x] w fun e w'=>e = .returned (.tuple #[zS,.agg #[zS],.agg #[zI 0,zI 0,zI 0,zI 0,zI 0,zI 0,zI 0,zI 0,.string ⟨#[]⟩],zI x])∧Below w.heap.size w w':=by
 obtain ⟨W0,HWW,H0o,H0r,H0B,hs0⟩:=sh2 w #[zS] 34 #[zI 0,zI 0,zI 0,zI 0,zI 0,zI 0,zI 0,zI 0,.string ⟨#[]⟩] 50;go_enter Tryz.func83,Tryz.ntmps83;go_upto_region 1 with fail
 rw [HWW.o];clear HWW
 go_wp2_with (first
  | (refine zql rfl rfl rfl rfl zqu34 (by simp [Value.oneCell']) H0o rfl ?_)
  | (refine zqw rfl rfl rfl H0o zqu34 ?_)
  | (refine zqw rfl rfl rfl H0r zqu50 ?_)
  | fail)
 intro W1 hU;have H1o:Hid (Blk W1 (w.heap.size) #[zS] 34):=hU.blk;have H1r:=shK hU H0r (by omega);have H1B:=shV hU H0B (by omega);have hsW1:W1.heap.size=W0.heap.size:=hU.size;clear hU H0o H0r H0B
 go_wp2_with (first
  | (refine zql rfl rfl rfl rfl zqu50 (by simp [Value.oneCell']) H1r rfl ?_)
  | (refine zqw rfl rfl rfl H1o zqu34 ?_)
  | (refine zqw rfl rfl rfl H1r zqu50 ?_)
  | fail)
 intro W2 hU;have H2o:=shK hU H1o (by omega);have H2r:Hid (Blk W2 (w.heap.size+1) #[zI 0,zI 0,zI 0,zI 0,zI 0,zI 0,zI 0,zI 0,.string ⟨#[]⟩] 50):=hU.blk;have H2B:=shV hU H1B (by omega);have hsW2:W2.heap.size=W1.heap.size:=hU.size;clear hU H1o H1r H1B;have Ro0:Hid (W2.cell? ⟨w.heap.size,0,none⟩=some (zS)):=H2o.o.cell 0;obtain ⟨Rr0,Rr1,Rr2,Rr3,Rr4,Rr5,Rr6,Rr7,Rr8⟩:=shc9 H2r;go_wp2_with fail;exact bodyPost_ret (v:= .tuple #[zS,.agg #[zS],.agg #[zI 0,zI 0,zI 0,zI 0,zI 0,zI 0,zI 0,zI 0,.string ⟨#[]⟩],zI x]) (by simp [results,Tryz.results83,Ro0.o,Rr0.o,Rr1.o,Rr2.o,Rr3.o,Rr4.o,Rr5.o,Rr6.o,Rr7.o,Rr8.o,go_sem]) rfl ⟨rfl,H2B.o⟩
end vnd
namespace words
open Go.RowKit
theorem eq1 (d:Nat) (a a':Int) (w:World):(Op.equalIn (d+1) 87 (.int .u32 a) (.int .u32 a')).run Tryz.prog w = .ok (a == a') w:=by
 simp [Op.equalIn,run_underlying Tryz.underlying87,go_sem]
theorem part0 (a b c:Int) (w:World):(part 87 #[.int .u32 a,.int .u32 b,.int .u32 c] 0).run Tryz.prog w = .ok (.int .u32 a) w:=by kernel_rfl
theorem part1 (a b c:Int) (w:World):(part 87 #[.int .u32 a,.int .u32 b,.int .u32 c] 1).run Tryz.prog w = .ok (.int .u32 b) w:=by kernel_rfl
theorem part2 (a b c:Int) (w:World):(part 87 #[.int .u32 a,.int .u32 b,.int .u32 c] 2).run Tryz.prog w = .ok (.int .u32 c) w:=by kernel_rfl
theorem eq3 (a b c a' b' c':Int) (w:World) :
  (Op.equalIn 10000 89 (.agg #[.int .u32 a,.int .u32 b,.int .u32 c]) (.agg #[.int .u32 a',.int .u32 b',.int .u32 c'])).run Tryz.prog w = .ok (a == a' && (b == b' && c == c')) w:=by
 obtain ⟨i0,hi⟩:∃ i,Tryz.prog.info? 87=some i:=⟨_,rfl⟩
 rw [show (10000:Nat)=9999+1 from rfl,run_equalIn_array (w:=w) 9999 _ _ Tryz.underlying89 hi,cells_word,show List.range 3=[0,1,2] from rfl];simp only [Op.eqItems,Sem.run_bind,Nat.mul_one,part0,Result.andThen_ok,show (9999:Nat)=9998+1 from rfl,eq1];by_cases ha:a=a'
 ·by_cases hb:b=b'
  ·by_cases hc:c=c'
   ·simp [part1,part2,Sem.run_bind,eq1,ha,hb,hc]
   ·simp [part1,part2,Sem.run_bind,eq1,ha,hb,hc]
  ·simp [part1,Sem.run_bind,eq1,ha,hb]
 ·simp [ha]
theorem eq3_same (x:W3) (w:World):(Op.equalIn 10000 89 (wv x) (wv x)).run Tryz.prog w = .ok true w:=by
 rw [eq3];simp
theorem eq3_other {x y:W3} (h:x≠y) (w:World):(Op.equalIn 10000 89 (wv x) (wv y)).run Tryz.prog w = .ok false w:=by
 rw [eq3];have:=agg_ne h
 congr 1
 simp;intro h1 h2 h3;exact this ⟨h1,h2,h3⟩
end words
end Go.Proofs.YtdpfnedfakgolaaGreatDoor
