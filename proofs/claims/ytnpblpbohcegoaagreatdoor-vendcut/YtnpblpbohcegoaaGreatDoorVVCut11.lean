import Derived.Test.YtnpblpbohcegoaaGreatDoorVVCut10
set_option linter.unusedVariables false
set_option linter.unusedSimpArgs false
set_option maxHeartbeats 4000000
set_option maxRecDepth 100000
namespace Go.Proofs.YtnpblpbohcegoaaGreatDoor
namespace vnd
open disk (RepIs AppIs May repD lenAt)
open book (Ev ev0 EMay evL evOf EncIs DecIs Cm cm0 So so0 BookIs FirstAt NoneAt Tells billOf soldOf)
open acc (Ac Tm Bi SellIs GrantIs RekeyIs OweIs)
open ora (Pr IssueIs)
open cell (Wr)
open rcp (Rc rc0)
open token (Tok fmtL)
def DecOk (z:List Int):Prop:=z.length=13∧EMay (evOf z)
theorem DecOk.zero {z:List Int} {v:Ev} {e:Int} (h:DecOk z) (hd:DecIs z v e):e=0∧v=evOf z:=by
 rcases hd with ⟨p,_⟩ | ⟨_,q,_⟩ | ⟨_,_,r,s⟩
 ·exact absurd h.1 p
 ·exact absurd h.2 q
 ·exact ⟨s,r⟩
theorem dec_ok {z:List Int} {v:Ev} (hd:DecIs z v 0):DecOk z∧v=evOf z:=by
 rcases hd with ⟨_,_,r⟩ | ⟨_,_,_,r⟩ | ⟨p,q,r,_⟩
 ·cases r
 ·cases r
 ·exact ⟨⟨p,q⟩,r⟩
theorem dec_no {z:List Int} {v:Ev} {e:Int} (hd:DecIs z v e) (h:e≠0):v=ev0:=by
 rcases hd with ⟨_,r,_⟩ | ⟨_,_,r,_⟩ | ⟨_,_,_,r⟩
 ·exact r
 ·exact r
 ·exact absurd r h
def KeptIs (c:List Int) (l:List Ev) (e:Int):Prop:=
 ∃ o x f,RepIs c o x f∧((f≠0∧l=[]∧e=f)∨(f=0∧(∀ j,j<o.length→DecOk (o.getD j []))∧l=o.map evOf∧e=0) ∨
  (f=0∧e≠0∧l=[]∧∃ k,k<o.length∧(∀ j,j<k→DecOk (o.getD j []))∧DecIs (o.getD k []) ev0 e))
theorem KeptIs.one {c:List Int} {l l':List Ev} {e e':Int} (h:KeptIs c l e) (h':KeptIs c l' e'):l=l'∧e=e':=by
 obtain ⟨o,x,f,hr,h⟩:=h;obtain ⟨o',x',f',hr',h'⟩:=h';obtain ⟨rfl,rfl,rfl⟩:=hr.one hr';rcases h with ⟨p,rfl,rfl⟩ | ⟨p,q,rfl,rfl⟩ | ⟨p,q,rfl,k,k1,k2,k3⟩ <;> rcases h' with ⟨p',rfl,rfl⟩ | ⟨p',q',rfl,rfl⟩ | ⟨p',q',rfl,k',k1',k2',k3'⟩ <;> first | exact ⟨rfl,rfl⟩ | contradiction | skip
 ·exact absurd ((q k' k1').zero k3').1 q'
 ·exact absurd ((q' k k1).zero k3).1 q
 ·rcases Nat.lt_trichotomy k k' with c | c | c
  ·exact absurd ((k2' k c).zero k3).1 q
  ·subst c;exact ⟨rfl,(k3.one k3').2⟩
  ·exact absurd ((k2 k' c).zero k3').1 q'
def LoadIs (t:Tm) (c:List Int) (bk:List Cm) (f:Int):Prop:=∃ l e,KeptIs c l e∧((e≠0∧bk=[]∧f=e)∨(e=0∧∃ a,BookIs t l bk a f))
theorem LoadIs.one {t:Tm} {c:List Int} {b b':List Cm} {f f':Int} (h:LoadIs t c b f) (h':LoadIs t c b' f'):b=b'∧f=f':=by
 obtain ⟨l,e,hk,h⟩:=h;obtain ⟨l',e',hk',h'⟩:=h';obtain ⟨rfl,rfl⟩:=hk.one hk';rcases h with ⟨p,rfl,rfl⟩ | ⟨p,a,q⟩ <;> rcases h' with ⟨p',rfl,rfl⟩ | ⟨p',a',q'⟩ <;> first | exact ⟨rfl,rfl⟩ | contradiction | exact ⟨(q.one q').1,(q.one q').2.2⟩
def KeepIs (c:List Int) (v:Ev) (ls:List Wr) (f:Int):Prop:=
 ∃ l e,KeptIs c l e∧((¬ l.length<120∧ls=[]∧f=16)∨(l.length<120∧∃ ws g,EncIs v ws g∧((g≠0∧ls=[]∧f=g)∨(g=0∧AppIs c ws ls f))))
theorem KeepIs.no {c:List Int} {v:Ev} {l:List Wr} {f:Int} (h:KeepIs c v l f) (hf:f≠0):l=[]:=by
 obtain ⟨k,e,hk,⟨_,q,_⟩ | ⟨_,ws,g,_,⟨_,q,_⟩ | ⟨_,q⟩⟩⟩:=h
 ·exact q
 ·exact q
 ·rcases q with ⟨_,q,_⟩ | ⟨_,_,q,_⟩ | ⟨_,_,_,q,_⟩ | ⟨_,_,_,_,q,_⟩ | ⟨_,_,_,_,_,q⟩ <;> first | exact q | exact absurd q hf
def regE (me:Int):Ev:=⟨1,me,0,0,0,0,0,0,0,0,0,0,0⟩
def chaE (me ow bp:Int):Ev:=⟨5,me,0,0,0,0,0,0,0,0,0,ow,bp⟩
def tokE (kd me mo:Int) (l:Bi) (tg:Int):Ev:=⟨kd,me,mo,l.id,l.te,l.de,l.fe,l.pr,l.ch,l.un,tg,0,0⟩
def askE (kd me te mo:Int):Ev:=⟨kd,me,mo,0,te,0,0,0,0,0,0,0,0⟩
def RegIs (t:Tm) (c:List Int) (me:Int) (ls:List Wr) (f:Int):Prop:=
 ∃ bk g,LoadIs t c bk g∧((g≠0∧ls=[]∧f=g)∨(g=0∧¬ (0≤me∧me≤49)∧ls=[]∧f=2)∨(g=0∧(0≤me∧me≤49)∧¬ NoneAt bk me∧ls=[]∧f=21)∨(g=0∧(0≤me∧me≤49)∧NoneAt bk me∧KeepIs c (regE me) ls f))
def ChaIs (t:Tm) (c:List Int) (me ow bp:Int) (ls:List Wr) (f:Int):Prop:=
 ∃ bk g,LoadIs t c bk g∧((g≠0∧ls=[]∧f=g)∨(g=0∧NoneAt bk me∧ls=[]∧f=18)∨(g=0∧∃ k b h,FirstAt bk me k∧OweIs (bk.getD k cm0).a ⟨ow,bp⟩ b h∧((h≠0∧ls=[]∧f=h)∨(h=0∧KeepIs c (chaE me ow bp) ls f))))
def tokB (kd rv:Int) (l:Bi) (tg:Int):Tok:=if kd=4 then ⟨2,l.id.toNat,(rv+1).toNat,tg.toNat⟩ else ⟨0,l.id.toNat,l.un.toNat,tg.toNat⟩
def recB (kd rv me:Int) (l:Bi) (tg:Int):Rc:=⟨me,l.id,l.te,l.de,l.fe,l.pr,l.ch,l.un,fmtL (97*(tokB kd rv l tg).num)⟩
def Gone (ls:List Wr) (o':List Pr) (r:Rc) (f x:Int):Prop:=ls=[]∧o'=[]∧r=rc0∧f=x
def TagIs (kd rv me mo dr:Int) (c:List Int) (o:List Pr) (l:Bi) (ls:List Wr) (o':List Pr) (r:Rc) (f:Int):Prop:=
 ∃ o2 tg g,IssueIs o me rv ((tokB kd rv l 0).body:Int) dr o2 tg g∧((g≠0∧Gone ls o' r f g)∨(g=0∧∃ l2 g3,KeepIs c (tokE kd me mo l tg) l2 g3∧((g3≠0∧Gone ls o' r f g3)∨(g3=0∧ls=l2∧o'=o2∧r=recB kd rv me l tg∧f=0))))
def TokIs (kd:Int) (t:Tm) (c:List Int) (o:List Pr) (me te mo dr:Int) (ls:List Wr) (o':List Pr) (r:Rc) (f:Int):Prop:=
 ∃ bk g,LoadIs t c bk g∧((g≠0∧Gone ls o' r f g)∨(g=0∧NoneAt bk me∧Gone ls o' r f 18)∨(g=0∧∃ k b l h,FirstAt bk me k∧Tells t (bk.getD k cm0) (askE kd me te mo) b l h∧((h≠0∧Gone ls o' r f h)∨(h=0∧TagIs kd (bk.getD k cm0).a.rv me mo dr c o l ls o' r f))))
end vnd
namespace cell
open Go.RowKit
def fv (B:Nat):Value:= .func (.func 47) #[] #[.pointer (some ⟨B,0,none⟩)]
theorem astray_any (B n cc:Nat) (ca:Option Addr) (e0:Wr) (W:World) (hc:W.cell? ⟨B,0,none⟩=some (.slice ca n cc)) (hB:B<W.heap.size) (hn:n≤2048) :
  Calls Tryz.prog 47 #[.agg #[zI e0.p,.int .u32 e0.d],.pointer (some ⟨B,0,none⟩)] W fun e w'=>e = .returned (.bool (!inN n e0))∧Below W.heap.size W w':=by
 obtain ⟨p,d⟩:=e0;have hc2:(W.alloc (.cells #[zI p,.int .u32 d] 122)).cell? ⟨B,0,none⟩=some (.slice ca n cc):=by rw [World.cell?_alloc_lt W _ _ hB];exact hc
 have HB:Hid (Below W.heap.size W (W.alloc (.cells #[zI p,.int .u32 d] 122))):=(Below.refl _ _).alloc (Nat.le_refl _) _;clear hc hB;by_cases h0:p<0
 ·have e1:(!inN n ⟨p,d⟩)=true:=by simp [inN];omega
  rw [e1];clear e1;go_enter Tryz.func47,Tryz.ntmps47;go_wp2_with fail;go_ret;exact ⟨rfl,HB.o⟩
 ·by_cases h1:p<n
  ·have e1:(!inN n ⟨p,d⟩)=false:=by simp [inN];omega
   have h2:decide ((n:Int)≤p)=false:=by simp;omega
   rw [e1];clear e1;go_enter Tryz.func47,Tryz.ntmps47;go_wp2_with fail;go_ret;exact ⟨rfl,HB.o⟩
  ·have e1:(!inN n ⟨p,d⟩)=true:=by simp [inN];omega
   have h2:decide ((n:Int)≤p)=true:=by simp;omega
   rw [e1];clear e1;go_enter Tryz.func47,Tryz.ntmps47;go_wp2_with fail;go_ret;exact ⟨rfl,HB.o⟩
def IxPost (w:World) (n:Nat) (ls:List Wr) (e:Ending) (w':World):Prop:=
 ∃ r:Int,e = .returned (zI r)∧(allN n ls=true∧r=-1∨allN n ls=false∧0≤r)∧Below w.heap.size w w'
theorem index_any (B n cc m c2:Nat) (ca b:Option Addr) (ls:List Wr) (w:World) (hc:w.cell? ⟨B,0,none⟩=some (.slice ca n cc)) (hn:n≤2048) (hr:RowW w b m ls) (hm:m≤4096) :
  Calls Tryz.prog 82 #[.slice b m c2,fv B] w fun e w'=>IxPost w n ls e w':=by
 have hB:=World.block_lt_of_cell? w _ hc
 have HC:Hid (∀ wr,Below w.heap.size w wr→∀ e0:Wr,Calls Tryz.prog 47 #[.agg #[zI e0.p,.int .u32 e0.d],.pointer (some ⟨B,0,none⟩)] wr fun e w'=>e = .returned (.bool (!inN n e0))∧Below wr.heap.size wr w'):=fun wr hb e0=>
  astray_any B n cc ca e0 wr ((hb.cell (p:=⟨B,0,none⟩) hB).trans hc) (Nat.lt_of_lt_of_le hB hb.size) hn
 have HR:Hid (RowW w b m ls):=hr;have HL:Hid (ls.length=m):=hr.1;clear hc hB hr;unfold fv;go_enter Tryz.func82,Tryz.ntmps82;go_wp2_with fail;go_loopw [8] (fun i wr=>∃ k:Nat,k≤m∧i=zI (k:Int)∧allN n (ls.take k)=true∧Below w.heap.size w wr) (fun i _=>m - (intOf i).toNat)
 case atStart=>exact ⟨0,Nat.zero_le _,rfl,rfl,Below.refl _ _⟩
 case round=>
  obtain ⟨k,hk,rfl,hal,hb⟩:=hrel;have HA:Hid (allN n (ls.take k)=true):=hal;have HB:Hid (Below w.heap.size w wr):=hb;clear hal hb;by_cases hlt:k<m
  ·obtain ⟨b2,o2,rfl,l2,hc2⟩:=HR.o.at (by omega);have f1:wr.cell? ⟨b2,o2+k*2,none⟩=some (zI (ls.getD k wr0).p):=(HB.o.cell (p:=⟨b2,o2+k*2,none⟩) l2).trans (hc2 k hlt).1;have f2:wr.cell? ⟨b2,o2+k*2+1,none⟩=some (.int .u32 (ls.getD k wr0).d):=(HB.o.cell (p:=⟨b2,o2+k*2+1,none⟩) l2).trans (hc2 k hlt).2;have hcall:=HC.o wr HB.o (ls.getD k wr0);have HST:Hid (allN n (ls.take (k+1))=(allN n (ls.take k) && inN n (ls.getD k wr0))):=allN_step n ls k (by have:=HL.o;omega);have HFL:Hid (inN n (ls.getD k wr0)=false→allN n ls=false):=fun h=>allN_of_false (by have:=HL.o;omega) h;clear hc2 l2;cases hi:inN n (ls.getD k wr0) with
   | true=>
    rw [hi] at hcall HST;have HSA:Hid (allN n (ls.take (k+1))=true):=by show _=_;rw [HST.o,HA.o];rfl
    have HCL:Hid (Calls Tryz.prog 47 #[.agg #[zI (ls.getD k wr0).p,.int .u32 (ls.getD k wr0).d],.pointer (some ⟨B,0,none⟩)] wr fun e w'=>e = .returned (.bool false)∧Below wr.heap.size wr w'):=hcall;clear hcall HST HFL hi;generalize (ls.getD k wr0).p=p at *;generalize (ls.getD k wr0).d=d at *;go_wp2_with fail;refine HCL.o.mono ?_;rintro e w' ⟨rfl,hb'⟩;have HB':Hid (Below w.heap.size w w'):=bel_step HB.o hb';clear hb' f1 f2;go_wp2_with fail;go_roundw
    case rel=>exact ⟨k+1,by omega,by go_num,HSA.o,HB'.o⟩
    case measure=>simp [intOf];omega
   | false=>
    rw [hi] at hcall;have HFA:Hid (allN n ls=false):=HFL.o hi;have HCL:Hid (Calls Tryz.prog 47 #[.agg #[zI (ls.getD k wr0).p,.int .u32 (ls.getD k wr0).d],.pointer (some ⟨B,0,none⟩)] wr fun e w'=>e = .returned (.bool true)∧Below wr.heap.size wr w'):=hcall;clear hcall HST HFL hi;generalize (ls.getD k wr0).p=p at *;generalize (ls.getD k wr0).d=d at *;go_wp2_with fail;refine HCL.o.mono ?_;rintro e w' ⟨rfl,hb'⟩;have HB':Hid (Below w.heap.size w w'):=bel_step HB.o hb';clear hb' f1 f2;go_wp2_with fail;go_ret;exact ⟨(k:Int),rfl,.inr ⟨HFA.o,by omega⟩,HB'.o⟩
  ·obtain rfl:k=m:=by omega
   have HFA:Hid (allN n ls=true):=by have:=HA.o;rw [List.take_of_length_le (by have:=HL.o;omega)] at this;exact this
   go_wp2_with fail;go_ret;exact ⟨-1,rfl,.inl ⟨HFA.o,rfl⟩,HB.o⟩
theorem contains_any (B n cc m c2:Nat) (ca b:Option Addr) (ls:List Wr) (w:World) (hc:w.cell? ⟨B,0,none⟩=some (.slice ca n cc)) (hn:n≤2048) (hr:RowW w b m ls) (hm:m≤4096) :
  Calls Tryz.prog 48 #[.slice b m c2,fv B] w fun e w'=>e = .returned (.bool (!allN n ls))∧Below w.heap.size w w':=by
 have HI:Hid (Calls Tryz.prog 82 #[.slice b m c2,fv B] w fun e w'=>IxPost w n ls e w'):=index_any B n cc m c2 ca b ls w hc hn hr hm;clear hc hr;generalize fv B=V at *;go_enter Tryz.func48,Tryz.ntmps48;go_wp2_with fail;refine HI.o.mono ?_;rintro e w' ⟨r,rfl,hr,hb'⟩;have HB':Hid (Below w.heap.size w w'):=hb';clear hb';rcases hr with ⟨ha,rfl⟩ | ⟨ha,hr⟩
 ·have HA:Hid ((!allN n ls)=false):=by show _=_;rw [ha];rfl
  clear ha;go_wp2_with fail;go_ret;exact ⟨by rw [HA.o];rfl,HB'.o⟩
 ·have HA:Hid ((!allN n ls)=true):=by show _=_;rw [ha];rfl
  clear ha;have hd:decide ((0:Int)≤r)=true:=by simpa using hr
  go_wp2_with fail;go_ret;exact ⟨by rw [HA.o];rfl,HB'.o⟩
end cell
namespace book
open Go.RowKit
open acc (Ac Tm Bi APost BPost TFault TRight OpenIs)
def Ev.cl (x:Ev):List Value:=[zI x.kd,zI x.me,zI x.mo,zI x.id,zI x.te,zI x.de,zI x.fe,zI x.pr,zI x.ch,zI x.un,zI x.tg,zI x.ow,zI x.bp]
def RowE (w:World) (a:Option Addr) (n:Nat) (l:List Ev):Prop:=l.length=n∧(n=0∨∃ b off,a=some ⟨b,off,none⟩∧b<w.heap.size∧∀ i j,i<n→j<13→w.cell? ⟨b,off+i*13+j,none⟩=(l.getD i ev0).cl[j]?)
theorem putAll_get (vs:List Value):∀ (o:Nat) (cs:Array Value) (j:Nat),o+vs.length≤cs.size→(putAll cs o vs)[j]?=if o≤j∧j<o+vs.length then vs[j - o]? else cs[j]?:=by
 induction vs with
 | nil=>intro o cs j _;rw [if_neg (by simp only [List.length_nil];omega)];rfl
 | cons v r ih=>
  intro o cs j h;simp only [List.length_cons] at h;rw [putAll,ih (o+1) _ j (by simp;omega)];by_cases h1:o+1≤j∧j<o+1+r.length
  ·rw [if_pos h1,if_pos (by simp;omega),show j - o=(j - (o+1))+1 by omega,List.getElem?_cons_succ]
  ·rw [if_neg h1];by_cases h2:j=o
   ·subst h2;rw [if_pos (by simp only [List.length_cons];omega),Nat.sub_self];simp [show j<cs.size by omega]
   ·rw [if_neg (by simp;omega),Array.getElem?_setIfInBounds_ne (by omega)]
theorem putAll_size (vs:List Value):∀ (o:Nat) (cs:Array Value),(putAll cs o vs).size=cs.size:=by
 induction vs with
 | nil=>intro o cs;rfl
 | cons v r ih=>intro o cs;rw [putAll,ih];simp
theorem cellsC_get (xs:List Cu) (j:Nat):(cellsC xs)[j]?=if j<xs.length*8 then (xs.getD (j / 8) cu0).cs[j % 8]? else none:=by
 by_cases h:j<xs.length*8
 ·rw [if_pos h];have:=cellsC_at xs (j / 8) (j % 8) (by omega) (by omega);rw [show j / 8*8+j % 8=j by omega] at this;exact this
 ·rw [if_neg h,List.getElem?_eq_none (by rw [cellsC_len];omega)]
theorem lc_lies {w:World} {base n cap:Nat} {a:Option Addr} {xs:List Cu} (h:Lc w base (.slice a n cap) xs) (hn:0<n):∃ g cur,a=some ⟨g,0,none⟩∧base≤g∧Blk w g cur 54∧n*8≤cur.size∧∀ i j,i<xs.length→j<8→cur[i*8+j]?=(xs.getD i cu0).cs[j]?:=by
 rcases h.2 with ⟨h',h0⟩ | ⟨g,cap',cur,hv,hg,hc,hle,hm,hz,ht⟩
 ·simp only [Value.slice.injEq] at h';omega
 ·simp only [Value.slice.injEq] at hv;obtain ⟨rfl,rfl,rfl⟩:=hv;refine ⟨g,cur,rfl,hg,hc,by omega,fun i j hi hj=>?_⟩;have h1:cur.toList[i*8+j]?=(cellsC xs)[i*8+j]?:=by rw [← ht,List.getElem?_take_of_lt (by omega)]
  rw [Array.getElem?_toList] at h1;rw [h1];exact cellsC_at xs i j hi hj
theorem cuA_of {x:Cu} {a:Ac} (h:Nums x a):∃ dp dn dc sp sn sc,x=⟨a.me,a.rv,a.nx,a.mo,a.bo,a.fr,dp,dn,dc,sp,sn,sc⟩:=by
 cases x;obtain ⟨h1,h2,h3,h4,h5,h6⟩:=h;simp only at h1 h2 h3 h4 h5 h6;subst h1 h2 h3 h4 h5 h6;exact ⟨_,_,_,_,_,_,rfl⟩
def leftE (v:Ev):Ev:=if v.kd=2 then ⟨0,0,0,0,0,0,0,0,0,0,0,v.ow,v.bp⟩ else if v.kd=3 then ⟨0,0,0,0,v.te,v.de,v.fe,v.pr,v.ch,0,0,v.ow,v.bp⟩ else if v.kd=4 then ⟨0,0,v.mo,0,v.te,v.de,v.fe,v.pr,v.ch,v.un,0,v.ow,v.bp⟩ else if v.kd=5 then ⟨0,0,v.mo,v.id,v.te,v.de,v.fe,v.pr,v.ch,v.un,v.tg,0,0⟩ else ⟨0,0,v.mo,v.id,v.te,v.de,v.fe,v.pr,v.ch,v.un,v.tg,v.ow,v.bp⟩
def Numd (id tg:Int):Prop:=(1≤id∧id≤1048575)∧0≤tg∧tg≤65535
def Unt (un:Int):Prop:=1≤un∧un≤2097151
def Mon (mo:Int):Prop:=0≤mo∧mo≤2399
def Mony (te de fe pr ch:Int):Prop:=(1≤te∧te≤100000000)∧((0≤de∧de≤100000000)∧(0≤fe∧fe≤100000000)∧(0≤pr∧pr≤100000000)∧0≤ch∧ch≤100000000)∧de+fe+pr+ch=te
def Dbt (ow bp:Int):Prop:=(1≤ow∧ow≤1000000000)∧0≤bp∧bp≤10000
def KindR (v:Ev):Prop:=v.kd=1∨(v.kd=2∧Mon v.mo∧Numd v.id v.tg∧Unt v.un∧Mony v.te v.de v.fe v.pr v.ch)∨(v.kd=3∧Mon v.mo∧Numd v.id v.tg∧Unt v.un)∨(v.kd=4∧Numd v.id v.tg)∨(v.kd=5∧Dbt v.ow v.bp)
theorem may_iff (v:Ev):EMay v↔(0≤v.me∧v.me≤49)∧KindR v∧leftE v=ev0:=by
 obtain ⟨kd,me,mo,id,te,de,fe,pr,ch,un,tg,ow,bp⟩:=v;unfold EMay KindR leftE ev0 Numd Unt Mon Mony Dbt;simp only;by_cases h1:kd=1
 ·subst h1;simp
 by_cases h2:kd=2
 ·subst h2;simp;intro _ _;constructor <;> intro h <;> omega
 by_cases h3:kd=3
 ·subst h3;simp;intro _ _;constructor <;> intro h <;> omega
 by_cases h4:kd=4
 ·subst h4;simp;intro _ _;constructor <;> intro h <;> omega
 by_cases h5:kd=5
 ·subst h5;simp;intro _ _;constructor <;> intro h <;> omega
 constructor
 ·rintro ⟨_,h | h | h⟩
  ·exact absurd h.1 h1
  ·exact absurd h.1 h5
  ·have:=h.1;omega
 ·rintro ⟨_,h | h | h | h | h,_⟩
  ·exact absurd h h1
  ·exact absurd h.1 h2
  ·exact absurd h.1 h3
  ·exact absurd h.1 h4
  ·exact absurd h.1 h5
theorem kind_2 {v:Ev} (h:v.kd=2):KindR v↔Mon v.mo∧Numd v.id v.tg∧Unt v.un∧Mony v.te v.de v.fe v.pr v.ch:=by simp [KindR,h]
theorem kind_3 {v:Ev} (h:v.kd=3):KindR v↔Mon v.mo∧Numd v.id v.tg∧Unt v.un:=by simp [KindR,h]
theorem kind_4 {v:Ev} (h:v.kd=4):KindR v↔Numd v.id v.tg:=by simp [KindR,h]
theorem kind_5 {v:Ev} (h:v.kd=5):KindR v↔Dbt v.ow v.bp:=by simp [KindR,h]
def YN (w:World) (P:Prop) (e:Ending) (w':World):Prop:=∃ B,e = .returned (.bool B)∧(B=true↔P)∧Below w.heap.size w w'
theorem YN.yes {w w':World} {P:Prop} (h:P) (hb:Below w.heap.size w w'):YN w P (.returned (.bool true)) w':=⟨true,rfl,⟨fun _=>h,fun _=>rfl⟩,hb⟩
theorem YN.no {w w':World} {P:Prop} (h:¬ P) (hb:Below w.heap.size w w'):YN w P (.returned (.bool false)) w':=⟨false,rfl,⟨fun q=>(by cases q),fun q=>absurd q h⟩,hb⟩
theorem eqBi_f0 (a0 a1 a2 a3 a4 a5 a6:Int) (w:World):(part 3 #[zI a0,zI a1,zI a2,zI a3,zI a4,zI a5,zI a6] 0).run Tryz.prog w = .ok (zI a0) w:=by kernel_rfl
theorem eqBi_f1 (a0 a1 a2 a3 a4 a5 a6:Int) (w:World):(part 3 #[zI a0,zI a1,zI a2,zI a3,zI a4,zI a5,zI a6] 1).run Tryz.prog w = .ok (zI a1) w:=by kernel_rfl
theorem eqBi_f2 (a0 a1 a2 a3 a4 a5 a6:Int) (w:World):(part 3 #[zI a0,zI a1,zI a2,zI a3,zI a4,zI a5,zI a6] 2).run Tryz.prog w = .ok (zI a2) w:=by kernel_rfl
theorem eqBi_f3 (a0 a1 a2 a3 a4 a5 a6:Int) (w:World):(part 3 #[zI a0,zI a1,zI a2,zI a3,zI a4,zI a5,zI a6] 3).run Tryz.prog w = .ok (zI a3) w:=by kernel_rfl
theorem eqBi_f4 (a0 a1 a2 a3 a4 a5 a6:Int) (w:World):(part 3 #[zI a0,zI a1,zI a2,zI a3,zI a4,zI a5,zI a6] 4).run Tryz.prog w = .ok (zI a4) w:=by kernel_rfl
theorem eqBi_f5 (a0 a1 a2 a3 a4 a5 a6:Int) (w:World):(part 3 #[zI a0,zI a1,zI a2,zI a3,zI a4,zI a5,zI a6] 5).run Tryz.prog w = .ok (zI a5) w:=by kernel_rfl
theorem eqBi_f6 (a0 a1 a2 a3 a4 a5 a6:Int) (w:World):(part 3 #[zI a0,zI a1,zI a2,zI a3,zI a4,zI a5,zI a6] 6).run Tryz.prog w = .ok (zI a6) w:=by kernel_rfl
theorem eqBi (d:Nat) (a0 a1 a2 a3 a4 a5 a6 b0 b1 b2 b3 b4 b5 b6:Int) (w:World):(Op.equalIn (d+2) 68 (.agg #[zI a0,zI a1,zI a2,zI a3,zI a4,zI a5,zI a6]) (.agg #[zI b0,zI b1,zI b2,zI b3,zI b4,zI b5,zI b6])).run Tryz.prog w = .ok (decide (a0=b0∧a1=b1∧a2=b2∧a3=b3∧a4=b4∧a5=b5∧a6=b6)) w:=by
 rw [run_equalIn_agg w (d+1) 68 _ _ (by kernel_rfl) (by kernel_rfl)];simp only [Program.fieldsOf,Tryz.underlying68,Op.eqFields,Sem.run_bind,Sem.run_ite,eqBi_f0,eqBi_f1,eqBi_f2,eqBi_f3,eqBi_f4,eqBi_f5,eqBi_f6,Result.andThen_ok,eqI];by_cases h0:a0=b0
 case neg=>simp [h0]
 subst h0;by_cases h1:a1=b1
 case neg=>simp [h1]
 subst h1;by_cases h2:a2=b2
 case neg=>simp [h2]
 subst h2;by_cases h3:a3=b3
 case neg=>simp [h3]
 subst h3;by_cases h4:a4=b4
 case neg=>simp [h4]
 subst h4;by_cases h5:a5=b5
 case neg=>simp [h5]
 subst h5;by_cases h6:a6=b6
 case neg=>simp [h6]
 subst h6;simp
theorem eqDe_f0 (a0 a1:Int) (w:World):(part 3 #[zI a0,zI a1] 0).run Tryz.prog w = .ok (zI a0) w:=by kernel_rfl
theorem eqDe_f1 (a0 a1:Int) (w:World):(part 3 #[zI a0,zI a1] 1).run Tryz.prog w = .ok (zI a1) w:=by kernel_rfl
theorem eqDe (d:Nat) (a0 a1 b0 b1:Int) (w:World):(Op.equalIn (d+2) 70 (.agg #[zI a0,zI a1]) (.agg #[zI b0,zI b1])).run Tryz.prog w = .ok (decide (a0=b0∧a1=b1)) w:=by
 rw [run_equalIn_agg w (d+1) 70 _ _ (by kernel_rfl) (by kernel_rfl)];simp only [Program.fieldsOf,Tryz.underlying70,Op.eqFields,Sem.run_bind,Sem.run_ite,eqDe_f0,eqDe_f1,Result.andThen_ok,eqI];by_cases h0:a0=b0
 case neg=>simp [h0]
 subst h0;by_cases h1:a1=b1
 case neg=>simp [h1]
 subst h1;simp
theorem eqEv_f0 (a0 a1 a2 a3 a4 a5 a6 a7 a8 a9 a10 a11 a12:Int) (w:World):(part 3 #[zI a0,zI a1,zI a2,zI a3,zI a4,zI a5,zI a6,zI a7,zI a8,zI a9,zI a10,zI a11,zI a12] 0).run Tryz.prog w = .ok (zI a0) w:=by kernel_rfl
theorem eqEv_f1 (a0 a1 a2 a3 a4 a5 a6 a7 a8 a9 a10 a11 a12:Int) (w:World):(part 3 #[zI a0,zI a1,zI a2,zI a3,zI a4,zI a5,zI a6,zI a7,zI a8,zI a9,zI a10,zI a11,zI a12] 1).run Tryz.prog w = .ok (zI a1) w:=by kernel_rfl
theorem eqEv_f2 (a0 a1 a2 a3 a4 a5 a6 a7 a8 a9 a10 a11 a12:Int) (w:World):(part 3 #[zI a0,zI a1,zI a2,zI a3,zI a4,zI a5,zI a6,zI a7,zI a8,zI a9,zI a10,zI a11,zI a12] 2).run Tryz.prog w = .ok (zI a2) w:=by kernel_rfl
theorem eqEv_f3 (a0 a1 a2 a3 a4 a5 a6 a7 a8 a9 a10 a11 a12:Int) (w:World):(part 68 #[zI a0,zI a1,zI a2,zI a3,zI a4,zI a5,zI a6,zI a7,zI a8,zI a9,zI a10,zI a11,zI a12] 3).run Tryz.prog w = .ok (.agg #[zI a3,zI a4,zI a5,zI a6,zI a7,zI a8,zI a9]) w:=by kernel_rfl
theorem eqEv_f10 (a0 a1 a2 a3 a4 a5 a6 a7 a8 a9 a10 a11 a12:Int) (w:World):(part 3 #[zI a0,zI a1,zI a2,zI a3,zI a4,zI a5,zI a6,zI a7,zI a8,zI a9,zI a10,zI a11,zI a12] 10).run Tryz.prog w = .ok (zI a10) w:=by kernel_rfl
theorem eqEv_f11 (a0 a1 a2 a3 a4 a5 a6 a7 a8 a9 a10 a11 a12:Int) (w:World):(part 70 #[zI a0,zI a1,zI a2,zI a3,zI a4,zI a5,zI a6,zI a7,zI a8,zI a9,zI a10,zI a11,zI a12] 11).run Tryz.prog w = .ok (.agg #[zI a11,zI a12]) w:=by kernel_rfl
theorem eqEv (d:Nat) (a0 a1 a2 a3 a4 a5 a6 a7 a8 a9 a10 a11 a12 b0 b1 b2 b3 b4 b5 b6 b7 b8 b9 b10 b11 b12:Int) (w:World):(Op.equalIn (d+3) 72 (.agg #[zI a0,zI a1,zI a2,zI a3,zI a4,zI a5,zI a6,zI a7,zI a8,zI a9,zI a10,zI a11,zI a12]) (.agg #[zI b0,zI b1,zI b2,zI b3,zI b4,zI b5,zI b6,zI b7,zI b8,zI b9,zI b10,zI b11,zI b12])).run Tryz.prog w = .ok (decide (a0=b0∧a1=b1∧a2=b2∧a3=b3∧a4=b4∧a5=b5∧a6=b6∧a7=b7∧a8=b8∧a9=b9∧a10=b10∧a11=b11∧a12=b12)) w:=by
 rw [run_equalIn_agg w (d+2) 72 _ _ (by kernel_rfl) (by kernel_rfl)];simp only [Program.fieldsOf,Tryz.underlying72,Op.eqFields,Sem.run_bind,Sem.run_ite,eqEv_f0,eqEv_f1,eqEv_f2,eqEv_f3,eqEv_f10,eqEv_f11,Result.andThen_ok,eqI,eqBi,eqDe];by_cases h0:a0=b0
 case neg=>simp [h0]
 subst h0;by_cases h1:a1=b1
 case neg=>simp [h1]
 subst h1;by_cases h2:a2=b2
 case neg=>simp [h2]
 subst h2;by_cases h3:a3=b3∧a4=b4∧a5=b5∧a6=b6∧a7=b7∧a8=b8∧a9=b9
 case neg=>
  have h3d:=decide_eq_false h3;have hx:¬ (a0=a0∧a1=a1∧a2=a2∧a3=b3∧a4=b4∧a5=b5∧a6=b6∧a7=b7∧a8=b8∧a9=b9∧a10=b10∧a11=b11∧a12=b12):=fun h=>h3 ⟨h.2.2.2.1,h.2.2.2.2.1,h.2.2.2.2.2.1,h.2.2.2.2.2.2.1,h.2.2.2.2.2.2.2.1,h.2.2.2.2.2.2.2.2.1,h.2.2.2.2.2.2.2.2.2.1⟩;simp only [h3d,decide_eq_false hx];simp;intro e3 e4 e5 e6 e7 e8 e9;exact absurd ⟨e3,e4,e5,e6,e7,e8,e9⟩ h3
 obtain ⟨rfl,rfl,rfl,rfl,rfl,rfl,rfl⟩:=h3;by_cases h10:a10=b10
 case neg=>simp [h10]
 subst h10;by_cases h11:a11=b11
 case neg=>simp [h11]
 subst h11;by_cases h12:a12=b12
 case neg=>simp [h12]
 subst h12;simp
end book
end Go.Proofs.YtnpblpbohcegoaaGreatDoor
