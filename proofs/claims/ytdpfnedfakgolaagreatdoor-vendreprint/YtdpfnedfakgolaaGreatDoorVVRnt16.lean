import Derived.Test.YtdpfnedfakgolaaGreatDoorVVRnt8
import Derived.Test.YtdpfnedfakgolaaGreatDoorVVRnt9
import Derived.Test.YtdpfnedfakgolaaGreatDoorVVRnt11
set_option linter.unusedVariables false
set_option linter.unusedSimpArgs false
set_option maxHeartbeats 4000000
set_option maxRecDepth 100000
namespace Go.Proofs.YtdpfnedfakgolaaGreatDoor
namespace vnd
open disk (RepIs AppIs May repD lenAt)
open book (Ev ev0 EMay evL evOf EncIs DecIs Cm cm0 So so0 BookIs FirstAt NoneAt Tells billOf soldOf)
open acc (Ac Tm Bi SellIs GrantIs RekeyIs OweIs)
open ora (Pr IssueIs)
open cell (Wr)
open rcp (Rc rc0)
open token (Tok fmtL)
def DecOk (z:List Int):Prop:=z.length=13∧EMay (evOf z)
theorem DecOk.zero {z:List Int} {v:Ev} {e:Int} (h:DecOk z) (hd:DecIs z v e):e=0∧v=evOf z:=by
 rcases hd with ⟨p,_⟩ | ⟨_,q,_⟩ | ⟨_,_,r,s⟩
 ·exact absurd h.1 p
 ·exact absurd h.2 q
 ·exact ⟨s,r⟩
theorem dec_ok {z:List Int} {v:Ev} (hd:DecIs z v 0):DecOk z∧v=evOf z:=by
 rcases hd with ⟨_,_,r⟩ | ⟨_,_,_,r⟩ | ⟨p,q,r,_⟩
 ·cases r
 ·cases r
 ·exact ⟨⟨p,q⟩,r⟩
theorem dec_no {z:List Int} {v:Ev} {e:Int} (hd:DecIs z v e) (h:e≠0):v=ev0:=by
 rcases hd with ⟨_,r,_⟩ | ⟨_,_,r,_⟩ | ⟨_,_,_,r⟩
 ·exact r
 ·exact r
 ·exact absurd r h
def KeptIs (c:List Int) (l:List Ev) (e:Int):Prop:=
 ∃ o x f,RepIs c o x f∧((f≠0∧l=[]∧e=f)∨(f=0∧(∀ j,j<o.length→DecOk (o.getD j []))∧l=o.map evOf∧e=0) ∨
  (f=0∧e≠0∧l=[]∧∃ k,k<o.length∧(∀ j,j<k→DecOk (o.getD j []))∧DecIs (o.getD k []) ev0 e))
theorem KeptIs.one {c:List Int} {l l':List Ev} {e e':Int} (h:KeptIs c l e) (h':KeptIs c l' e'):l=l'∧e=e':=by
 obtain ⟨o,x,f,hr,h⟩:=h;obtain ⟨o',x',f',hr',h'⟩:=h';obtain ⟨rfl,rfl,rfl⟩:=hr.one hr';rcases h with ⟨p,rfl,rfl⟩ | ⟨p,q,rfl,rfl⟩ | ⟨p,q,rfl,k,k1,k2,k3⟩ <;> rcases h' with ⟨p',rfl,rfl⟩ | ⟨p',q',rfl,rfl⟩ | ⟨p',q',rfl,k',k1',k2',k3'⟩ <;> first | exact ⟨rfl,rfl⟩ | contradiction | skip
 ·exact absurd ((q k' k1').zero k3').1 q'
 ·exact absurd ((q' k k1).zero k3).1 q
 ·rcases Nat.lt_trichotomy k k' with c | c | c
  ·exact absurd ((k2' k c).zero k3).1 q
  ·subst c;exact ⟨rfl,(k3.one k3').2⟩
  ·exact absurd ((k2 k' c).zero k3').1 q'
def LoadIs (t:Tm) (c:List Int) (bk:List Cm) (f:Int):Prop:=∃ l e,KeptIs c l e∧((e≠0∧bk=[]∧f=e)∨(e=0∧∃ a,BookIs t l bk a f))
theorem LoadIs.one {t:Tm} {c:List Int} {b b':List Cm} {f f':Int} (h:LoadIs t c b f) (h':LoadIs t c b' f'):b=b'∧f=f':=by
 obtain ⟨l,e,hk,h⟩:=h;obtain ⟨l',e',hk',h'⟩:=h';obtain ⟨rfl,rfl⟩:=hk.one hk';rcases h with ⟨p,rfl,rfl⟩ | ⟨p,a,q⟩ <;> rcases h' with ⟨p',rfl,rfl⟩ | ⟨p',a',q'⟩ <;> first | exact ⟨rfl,rfl⟩ | contradiction | exact ⟨(q.one q').1,(q.one q').2.2⟩
def KeepIs (c:List Int) (v:Ev) (ls:List Wr) (f:Int):Prop:=
 ∃ l e,KeptIs c l e∧((¬ l.length<120∧ls=[]∧f=16)∨(l.length<120∧∃ ws g,EncIs v ws g∧((g≠0∧ls=[]∧f=g)∨(g=0∧AppIs c ws ls f))))
def regE (me:Int):Ev:=⟨1,me,0,0,0,0,0,0,0,0,0,0,0⟩
def chaE (me ow bp:Int):Ev:=⟨5,me,0,0,0,0,0,0,0,0,0,ow,bp⟩
def tokE (kd me mo:Int) (l:Bi) (tg:Int):Ev:=⟨kd,me,mo,l.id,l.te,l.de,l.fe,l.pr,l.ch,l.un,tg,0,0⟩
def askE (kd me te mo:Int):Ev:=⟨kd,me,mo,0,te,0,0,0,0,0,0,0,0⟩
def RegIs (t:Tm) (c:List Int) (me:Int) (ls:List Wr) (f:Int):Prop:=
 ∃ bk g,LoadIs t c bk g∧((g≠0∧ls=[]∧f=g)∨(g=0∧¬ (0≤me∧me≤49)∧ls=[]∧f=2)∨(g=0∧(0≤me∧me≤49)∧¬ NoneAt bk me∧ls=[]∧f=21)∨(g=0∧(0≤me∧me≤49)∧NoneAt bk me∧KeepIs c (regE me) ls f))
def ChaIs (t:Tm) (c:List Int) (me ow bp:Int) (ls:List Wr) (f:Int):Prop:=
 ∃ bk g,LoadIs t c bk g∧((g≠0∧ls=[]∧f=g)∨(g=0∧NoneAt bk me∧ls=[]∧f=18)∨(g=0∧∃ k b h,FirstAt bk me k∧OweIs (bk.getD k cm0).a ⟨ow,bp⟩ b h∧((h≠0∧ls=[]∧f=h)∨(h=0∧KeepIs c (chaE me ow bp) ls f))))
def tokB (kd rv:Int) (l:Bi) (tg:Int):Tok:=if kd=4 then ⟨2,l.id.toNat,(rv+1).toNat,tg.toNat⟩ else ⟨0,l.id.toNat,l.un.toNat,tg.toNat⟩
def recB (kd rv me:Int) (l:Bi) (tg:Int):Rc:=⟨me,l.id,l.te,l.de,l.fe,l.pr,l.ch,l.un,fmtL (97*(tokB kd rv l tg).num)⟩
def Gone (ls:List Wr) (o':List Pr) (r:Rc) (f x:Int):Prop:=ls=[]∧o'=[]∧r=rc0∧f=x
def TagIs (kd rv me mo dr:Int) (c:List Int) (o:List Pr) (l:Bi) (ls:List Wr) (o':List Pr) (r:Rc) (f:Int):Prop:=
 ∃ o2 tg g,IssueIs o me rv ((tokB kd rv l 0).body:Int) dr o2 tg g∧((g≠0∧Gone ls o' r f g)∨(g=0∧∃ l2 g3,KeepIs c (tokE kd me mo l tg) l2 g3∧((g3≠0∧Gone ls o' r f g3)∨(g3=0∧ls=l2∧o'=o2∧r=recB kd rv me l tg∧f=0))))
def TokIs (kd:Int) (t:Tm) (c:List Int) (o:List Pr) (me te mo dr:Int) (ls:List Wr) (o':List Pr) (r:Rc) (f:Int):Prop:=
 ∃ bk g,LoadIs t c bk g∧((g≠0∧Gone ls o' r f g)∨(g=0∧NoneAt bk me∧Gone ls o' r f 18)∨(g=0∧∃ k b l h,FirstAt bk me k∧Tells t (bk.getD k cm0) (askE kd me te mo) b l h∧((h≠0∧Gone ls o' r f h)∨(h=0∧TagIs kd (bk.getD k cm0).a.rv me mo dr c o l ls o' r f))))
def RepIsP (t:Tm) (c:List Int) (me id:Int) (s:List UInt8) (f:Int):Prop:=
 ∃ bk g,LoadIs t c bk g∧((g≠0∧s=[]∧f=g)∨(g=0∧NoneAt bk me∧s=[]∧f=18)∨(g=0∧∃ k,FirstAt bk me k ∧
  (((∀ j,j<(bk.getD k cm0).so.length→((bk.getD k cm0).so.getD j so0).id≠id)∧s=[]∧f=22) ∨
   (∃ j,j<(bk.getD k cm0).so.length∧((bk.getD k cm0).so.getD j so0).id=id∧(∀ i,i<j→((bk.getD k cm0).so.getD i so0).id≠id)∧f=0 ∧
    s=fmtL (97*(Tok.mk ((bk.getD k cm0).so.getD j so0).cl.toNat id.toNat ((bk.getD k cm0).so.getD j so0).am.toNat ((bk.getD k cm0).so.getD j so0).tg.toNat).num)))))
open book (Sees)
open cell (RowU)
open Go.RowKit
structure Dk (w:World) (a:Option Addr) (n cap:Nat) (c:List Int):Prop where
 row:RowU w a n c
 nil:a=none→cap=0
 room:n≤cap
 bytes:n*4≤140737488351232
 wd:∀ x∈c,0≤x∧x<4294967296
theorem Dk.below {w w':World} {a:Option Addr} {n cap:Nat} {c:List Int} (h:Dk w a n cap c) (hb:Below w.heap.size w w'):Dk w' a n cap c:=⟨h.row.below hb,h.nil,h.room,h.bytes,h.wd⟩
def RprPost (w:World) (R:List UInt8→Int→Prop) (e:Ending) (w':World):Prop:=∃ l f,e = .returned (.tuple #[.string ⟨l.toArray⟩,zI f])∧R l f∧Below w.heap.size w w'
theorem blk_new4 (w:World) (o p q r:Obj) (cs:Array Value) (t:TypeId):Blk (((((w.alloc o).alloc p).alloc q).alloc r).alloc (.cells cs t)) (w.heap.size+1+1+1+1) cs t:=by
 have h:=Blk.new ((((w.alloc o).alloc p).alloc q).alloc r) cs t
 rwa [show ((((w.alloc o).alloc p).alloc q).alloc r).heap.size=w.heap.size+1+1+1+1 by simp] at h
theorem blk_new5 (w:World) (o p q r s:Obj) (cs:Array Value) (t:TypeId):Blk ((((((w.alloc o).alloc p).alloc q).alloc r).alloc s).alloc (.cells cs t)) (w.heap.size+1+1+1+1+1) cs t:=by
 have h:=Blk.new (((((w.alloc o).alloc p).alloc q).alloc r).alloc s) cs t
 rwa [show (((((w.alloc o).alloc p).alloc q).alloc r).alloc s).heap.size=w.heap.size+1+1+1+1+1 by simp] at h
end vnd
namespace book
open Go.RowKit
open acc (Ac Tm Bi APost BPost OweIs SellIs GrantIs RekeyIs)
theorem acc_upd {w W:World} {g:Nat} {cs:Array Value} {ty:TypeId} {a:Option Addr} {n cap:Nat} {zs:List tar.Du} (h:tar.Came w a n cap zs) (hU:Upd w W g cs ty) (hne:0<n→∀ x,a=some x→x.block≠g):tar.Came W a n cap zs:=by
 refine ⟨⟨h.row.1,?_⟩,h.nil,h.room,h.bytes,h.wf⟩;rcases h.row.2 with h0 | ⟨b,off,rfl,hc⟩
 ·exact .inl h0
 ·refine .inr ⟨b,off,rfl,fun i hi=>?_⟩;have h1:=hc i hi;have hb:b≠g:=hne (by omega) ⟨b,off,none⟩ rfl;rw [hU.cell ⟨b,off+i*2,none⟩ hb rfl,hU.cell ⟨b,off+i*2+1,none⟩ hb rfl];exact h1
end book
namespace met
open Go.RowKit ora
def Alive (w:World) (a:Option Addr):Prop:=∀ y,a=some y→y.block<w.heap.size
theorem Alive.none (w:World):Alive w none:=fun y h=>by cases h
end met
namespace deb
open tar (Du du0 Came RowD Ld ErrPost TwoPost PairT)
open Go.RowKit
theorem kage:KdAge:=by
 intro w a len cap ls mo hcame hmw;have hr:=hcame.row;have HBY:Hid (len*16≤140737488351232):=hcame.bytes;have HNIL:Hid (a=none→cap=0):=hcame.nil;have HFA:Hid (Calls Tryz.prog 150 #[.slice a len cap] w fun e w'=>∃ f,e = .returned (zI f)∧FaultIs ls f∧Below w.heap.size w w'):=pcheck a len cap ls w hr hcame.most;have HIM:Hid (∀ W,Calls Tryz.prog 153 #[zI 0,zI 2400,zI mo] W fun e w'=>e = .returned (.bool (decide (0≤mo∧mo≤2400)))∧w'=W):=fun W=>dwithin 0 2400 mo W;have HROW0:Hid (RowD w a len ls):=hr;clear hcame hr hmw;go_enter Tryz.func152,Tryz.ntmps152;go_wp2_with fail;go_step3;go_wp2_with fail;refine HFA.o.mono ?_;rintro e w1 ⟨f,rfl,hf,hb1⟩;have HB1:Hid (Below w.heap.size w w1):=hb1;have HF:Hid (FaultIs ls f):=hf;clear hb1 HFA;by_cases h0:f=0
 ·subst h0;have hm:=hf.ok.1 rfl;have HM:Hid (Mays ls):=hm;have HROW:Hid (RowD w1 a len ls):=HROW0.o.below HB1.o;have HLEN:Hid (ls.length=len):=HROW.o.1;have hl8:len≤8:=by have:=hm.1;have:=HLEN.o;omega
  clear hf hm HROW0 HF;by_cases hmm:0≤mo∧mo≤2400
  ·rw [decide_eq_true hmm] at HIM;have HMO:Hid (0≤mo∧mo≤2400):=hmm;obtain ⟨m,rfl⟩:=Int.eq_ofNat_of_zero_le hmm.1;have hm2:m≤2400:=by omega
   have HMT:Hid ((m:Int).toNat=m):=by show _=_;omega
   clear hmm;go_wp2_with fail;refine (HIM.o _).mono ?_;rintro e w2 ⟨rfl,hw2⟩;subst hw2;clear HIM;cases a with
   | none=>
    have hc0:=HNIL.o rfl;have hl0:len=0:=by rcases HROW.o.2 with h | ⟨b,off,h,_⟩;exact h;cases h
    subst hc0 hl0;have happ:∀ w:World,(Builtin.append_ #[59,59] 59 #[zS,zS]).run Tryz.prog w = .ok (zS) w:=fun w=>by kernel_rfl
    have HAI:Hid (AgeIs ls (m:Int) (ageAll ls m) 0):= .inr (.inr ⟨HM.o,HMO.o,rfl,by rw [HMT.o]⟩)
    have HZ:Hid (ageAll ls m=[]):=by
     obtain rfl:ls=[]:=List.eq_nil_of_length_eq_zero HLEN.o;rfl
    go_wp2_with fail;go_step3;go_wp2_with fail;go_loopg [22] 0 (fun g z wr=>z=zI 0∧wr=w2)
    case atStart=>exact ⟨rfl,rfl⟩
    case round=>
     obtain ⟨rfl,rfl⟩:=hrel;go_wp2_with fail
     try rw [Exit.noGoto_ret]
     go_ret2;exact ⟨none,0,0,_,0,rfl,HAI.o,by rw [HZ.o];exact fresh_nil _ _,HB1.o⟩
   | some A=>
    go_wp2_with (first
     | (at_builtin;refine tar.wp_pairs debtT rfl _ _ rfl w2.heap.size A len cap ls rfl rfl HROW.o HBY.o (Nat.le_refl _) ?_)
     | fail)
    intro v3 w3 hown hg;obtain ⟨a3,cap3,hv3,hcm⟩:=ld_mays hown HM.o;rw [HLEN.o] at hv3;subst hv3;have HL3:Hid (Ld 83 w3 w2.heap.size (.slice a3 len cap3) ls):=hown;have HB3:Hid (Below w2.heap.size w2 w3):=(Below.refl _ _).grown hg (Nat.le_refl _) (fun k hk=>by cases hk);clear hown hg hcm;go_wp2_with fail;go_step3;go_wp2_with fail;have HMIX:Hid (Ld 83 w3 w2.heap.size (.slice a3 len cap3) (mixK ls m 0)):=HL3.o;go_loopg [22] len (fun g z wr=>∃ k:Nat,k+g=len∧z=zI (k:Int)∧Ld 83 wr w2.heap.size (.slice a3 len cap3) (mixK ls m k)∧Below w2.heap.size w2 wr)
    case atStart=>exact ⟨0,by omega,rfl,HMIX.o,HB3.o⟩
    case round=>
     obtain ⟨k,hkg,rfl,hl,hb⟩:=hrel;have HLK:Hid (Ld 83 wr w2.heap.size (.slice a3 len cap3) (mixK ls m k)):=hl;have HBK:Hid (Below w2.heap.size w2 wr):=hb;clear hl hb HMIX HL3 HB3;cases gk with
     | zero=>
      obtain rfl:k=len:=by omega
      have hdl:decide ((k:Int)<(k:Int))=false:=by simp
      have HAI:Hid (AgeIs ls (m:Int) (ageAll ls m) 0):= .inr (.inr ⟨HM.o,HMO.o,rfl,by rw [HMT.o]⟩);have HLE:Hid (Ld 83 wr w2.heap.size (.slice a3 k cap3) (ageAll ls m)):=by have:=HLK.o;rw [mix_all ls m k HLEN.o] at this;exact this
      have HCM:Hid (Fresh wr w.heap.size a3 k cap3 (ageAll ls m)):=by
       obtain ⟨a4,cap4,hv4,hcm⟩:=ld_fresh HLE.o (ageAll_mays HM.o m);have e:(ageAll ls m).length=k:=by rw [ageAll_len];exact HLEN.o
       rw [e] at hv4 hcm;simp only [Value.slice.injEq,true_and] at hv4;obtain ⟨rfl,rfl⟩:=hv4;exact hcm.low HB1.o.size
      have HB9:Hid (Below w.heap.size w wr):=HB1.o.trans (HBK.o.mono HB1.o.size);clear HLK HLE;generalize ageAll ls m=Z at *;go_wp2_with fail
      try rw [Exit.noGoto_ret]
      go_ret2;exact ⟨a3,k,cap3,Z,0,rfl,HAI.o,HCM.o,HB9.o⟩
     | succ g=>
      have hlt:k<len:=by omega
      have hdl:decide ((k:Int)<(len:Int))=true:=by simp;omega
      have hkl:k<ls.length:=by rw [HLEN.o];exact hlt
      have ho:=HM.o.2 k hkl;have HML:Hid ((mixK ls m k).length=len):=by show _=_;rw [mix_len ls m k (by omega)];exact HLEN.o
      have HSM:Hid ((mixK ls m k).set k ⟨growN (ls.getD k du0).b 0 (ls.getD k du0).a,(ls.getD k du0).b⟩=mixK ls m k):=mix_same ls m k hkl;have HNX:Hid ((mixK ls m k).set k ⟨growN (ls.getD k du0).b m (ls.getD k du0).a,(ls.getD k du0).b⟩=mixK ls m (k+1)):=mix_next ls m k hkl;have hx0:=ho.1.1;have hx1:=ho.1.2;have hy0:=ho.2.1;have hy1:=ho.2.2;clear ho hkl;generalize (ls.getD k du0).a=x at *;generalize (ls.getD k du0).b=y at *;go_wp2_with fail;go_loopg [26] m (fun g2 z wy=>∃ j:Nat,j+g2=m∧z=zI (j:Int)∧Ld 83 wy w2.heap.size (.slice a3 len cap3) ((mixK ls m k).set k ⟨growN y j x,y⟩)∧Below w2.heap.size w2 wy)
      case atStart=>exact ⟨0,by omega,rfl,by rw [HSM.o];exact HLK.o,HBK.o⟩
      case round=>
       rename_i wo
       obtain ⟨j,hjg,rfl,hl,hb⟩:=hrel;have HLJ:Hid (Ld 83 wr w2.heap.size (.slice a3 len cap3) ((mixK ls m k).set k ⟨growN y j x,y⟩)):=hl;have HBJ:Hid (Below w2.heap.size w2 wr):=hb;clear hl hb HLK HBK HSM;cases gk with
       | zero=>
        obtain rfl:j=m:=by omega
        have hdj:decide ((j:Int)<(j:Int))=false:=by simp
        have HLN:Hid (Ld 83 wr w2.heap.size (.slice a3 len cap3) (mixK ls j (k+1))):=by have:=HLJ.o;rw [HNX.o] at this;exact this
        clear HLJ HNX;go_wp2_with fail;go_roundg g
        case measure=>omega
        case rel=>exact ⟨k+1,by omega,by first | rfl | go_num,HLN.o,HBJ.o⟩
       | succ g2=>
        have hdj:decide ((j:Int)<(m:Int))=true:=by simp;omega
        have hjm:j<m:=by omega
        obtain ⟨gg,cur,hga,hgb,hblk,hcs,hcc⟩:=ld_lies HLJ.o (by omega);have hcell:=hcc k (by rw [List.length_set,HML.o];exact hlt)
        have hat:((mixK ls m k).set k ⟨growN y j x,y⟩).getD k du0=⟨growN y j x,y⟩:=by
         have:k<(mixK ls m k).length:=by rw [HML.o];exact hlt
         simp [List.getD,this]
        rw [hat] at hcell;obtain ⟨off,hoff⟩:∃ off:Nat,off=0:=⟨0,rfl⟩
        have HOFF:Hid (off=0):=hoff;have hga2:a3=some ⟨gg,off,none⟩:=by rw [hga,hoff]
        have c0:wr.cell? ⟨gg,off+k*2,none⟩=some (zI (growN y j x)):=by rw [hoff,Nat.zero_add];exact hcell.1
        have c1:wr.cell? ⟨gg,off+k*2+1,none⟩=some (zI y):=by rw [hoff,Nat.zero_add];exact hcell.2
        have HBL:Hid (Blk wr gg cur 83):=hblk;have hin:off+k*2<cur.size:=by omega
        have HGB:Hid (w2.heap.size≤gg):=hgb;clear hcell hat hcc hblk hgb hga hcs hoff;subst hga2;have hgn:=growN_bd hy0 hy1 hx0 hx1 j;have hu0:0≤growN y j x:=by omega
        have hu1:=hgn.2;have HGS:Hid (growN y (j+1) x=grow y (growN y j x)):=rfl;have HGR:Hid (∀ W,Calls Tryz.prog 155 #[.agg #[zI (growN y j x),zI y]] W fun e w'=>e = .returned (zI (min (growN y j x*y / 10000) (1000000000 - growN y j x)))∧Below W.heap.size W w'):=fun W=>pgrowth _ _ W ⟨hu0,hu1⟩ ⟨hy0,hy1⟩;have HMO2:Hid (grow y (growN y j x)=growN y j x+min (growN y j x*y / 10000) (1000000000 - growN y j x)):=grow_more hu0 hu1 hy0
        have hv0:0≤min (growN y j x*y / 10000) (1000000000 - growN y j x):=by
         have:=Int.mul_nonneg hu0 hy0;generalize growN y j x*y=pp at *;omega
        have hv1:min (growN y j x*y / 10000) (1000000000 - growN y j x)≤1000000000 - growN y j x:=Int.min_le_right _ _;generalize min (growN y j x*y / 10000) (1000000000 - growN y j x)=v at *;clear hgn;by_cases hz:v=0
        ·have hvz:(v == 0)=true:=by simpa using hz
         have HST:Hid (growN y m x=growN y j x):=by
          have h1:grow y (growN y j x)=growN y j x:=by rw [HMO2.o,hz];omega
          have h2:=growN_still h1 (m - j);rw [growN_add,show j+(m - j)=m by omega] at h2;exact h2
         have HLN:Hid (Ld 83 wr w2.heap.size (.slice (some ⟨gg,off,none⟩) len cap3) (mixK ls m (k+1))):=by have:=HLJ.o;rw [← HST.o,HNX.o] at this;exact this
         clear hz HST HNX HLJ;generalize growN y j x=u at *;go_wp2_with fail;refine (HGR.o _).mono ?_;rintro e w5 ⟨rfl,hb5⟩;have HL5:Hid (Ld 83 w5 w2.heap.size (.slice (some ⟨gg,off,none⟩) len cap3) (mixK ls m (k+1))):=HLN.o.next hb5;have HB5:=shB HBJ hb5;clear hb5 HGR HLN c0 c1;go_wp2_with fail;go_roundg g
         case measure=>omega
         case rel=>exact ⟨k+1,by omega,by first | rfl | go_num,HL5.o,HB5.o⟩
        ·have hvz:(v == 0)=false:=by simpa using hz
         have HSS:Hid (((mixK ls m k).set k ⟨growN y j x,y⟩).set k ⟨growN y j x+v,y⟩=(mixK ls m k).set k ⟨growN y (j+1) x,y⟩):=by show _=_;rw [List.set_set,HGS.o,HMO2.o]
         have HAT:Hid ((((mixK ls m k).set k ⟨growN y j x,y⟩).getD k du0).b=y):=by
          have:k<(mixK ls m k).length:=by rw [HML.o];exact hlt
          show _=_;simp [List.getD,this]
         have HKL:Hid (k<((mixK ls m k).set k ⟨growN y j x,y⟩).length):=by show _<_;rw [List.length_set,HML.o];exact hlt
         clear hz HGS HMO2;generalize (mixK ls m k).set k ⟨growN y j x,y⟩=Z at *;generalize growN y j x=u at *;go_wp2_with fail;refine (HGR.o _).mono ?_;rintro e w5 ⟨rfl,hb5⟩;have HL5:Hid (Ld 83 w5 w2.heap.size (.slice (some ⟨gg,off,none⟩) len cap3) Z):=HLJ.o.next hb5;have HB5:=shB HBJ hb5;have HK5:=shN HBL hb5;have e0:w5.cell? ⟨gg,off+k*2,none⟩=some (zI u):=(hb5.cell (p:=⟨gg,off+k*2,none⟩) HBL.o.lt).trans c0;clear hb5 HGR HLJ c0 c1 HBL HBJ
         go_wp2_with (first
          | (refine wp_let1 rfl 3 _ _ rfl gg (off+k*2) rfl .i64 (u+v) rfl (by kernel_rfl) cur 83 HK5.o hin ?_)
          | fail)
         intro W6 hU
         have HL6:Hid (Ld 83 W6 w2.heap.size (.slice (some ⟨gg,off,none⟩) len cap3) ((mixK ls m k).set k ⟨growN y (j+1) x,y⟩)):=by
          obtain rfl:=HOFF.o;rw [Nat.zero_add] at hU;show Ld _ _ _ _ _;rw [← HSS.o];exact ld_put HL5.o HK5.o k HKL.o _ _ HAT.o hU
         have HB6:Hid (Below w2.heap.size w2 W6):=hU.bel _ _ HGB.o HB5.o;clear hU HL5 HK5 HB5 e0;go_wp2_with fail;go_roundg g2
         case measure=>omega
         case rel=>exact ⟨j+1,by omega,by first | rfl | go_num,HL6.o,HB6.o⟩
  ·rw [decide_eq_false hmm] at HIM;have HMO:Hid (¬ (0≤mo∧mo≤2400)):=hmm;clear hmm;go_wp2_with fail;refine (HIM.o _).mono ?_;rintro e w2 ⟨rfl,hw2⟩;subst hw2;go_wp2_with fail
   try rw [Exit.noGoto_ret]
   go_ret2;exact ⟨none,0,0,[],2,rfl,.inr (.inl ⟨HM.o,HMO.o,rfl,rfl⟩),fresh_nil _ _,HB1.o⟩
 ·have hne:(f != 0)=true:=by simpa using h0
  have HN:Hid (¬ Mays ls):=fun h=>h0 (hf.ok.2 h);clear hf h0 HIM;go_wp2_with fail
  try rw [Exit.noGoto_ret]
  go_ret2;exact ⟨none,0,0,[],f,rfl,.inl ⟨HN.o,HF.o,rfl⟩,fresh_nil _ _,HB1.o⟩
end deb
namespace acc
open tar (Du)
open Go.RowKit
def KcSell:Prop:=∀ (W:World) (x:Ac) (p:Option Addr) (len cap:Nat) (t:Tm) (pt:Option Addr) (lt ct:Nat) (te m:Int),ACame W x p len cap→TCame W t pt lt ct→(Lit.int .i64 te).wf=true→(Lit.int .i64 m).wf=true→Calls Tryz.prog 52 #[x.v p len cap,t.v pt lt ct,zI te,zI m] W fun e w'=>BPost W (SellIs x t te m) e w'
def KcOpen:Prop:=∀ (W:World) (m:Int),(Lit.int .i64 m).wf=true→Calls Tryz.prog 137 #[zI m] W fun e w'=>APost W (OpenIs m) e w'
end acc
namespace book
open Go.RowKit
theorem of_caught (ge gn ga:Nat) (f0 m0 a0 f:Int) (hf:f≠0) (w:World) (he:Blk w ge #[zI f0] 42) (hn:Blk w gn #[zI m0] 3) (ha:Blk w ga #[zI a0] 3) (h1:gn≠ge) (h2:ga≠ge) :
  CallsD Tryz.prog 75 #[.pointer (some ⟨ge,0,none⟩),.pointer (some ⟨gn,0,none⟩),.pointer (some ⟨ga,0,none⟩)] (.panicking (thrown f)) w fun e u' w'=>e = .returned (.tuple #[])∧settle u' = .returning∧∃ W W2,Below w.heap.size w W∧Upd W W2 ge #[zI f] 42∧Upd W2 w' ga #[zI m0] 3:=by
 refine callsD_of_wpS Tryz.func75 rfl fun c₀ cs hu=>?_;apply wpS_seq;apply wpS_region;simp only [thrown] at hu;simp [wpOpsS,go_sem,recoverD,hu,Tryz.ntmps75,Exit.thenS];refine (reason_is f w).mono ?_;rintro e w1 ⟨rfl,hb1⟩;have hE:=he.next hb1;have hN:=hn.next hb1;have hA:=ha.next hb1;have hc:w1.cell? ⟨ge,0,none⟩=some (zI f0):=hE.cell 0;have hz:w1.frozen? ⟨ge,0,none⟩=false:=hE.free 0;have hU:Upd w1 (w1.setCell ⟨ge,0,none⟩ (zI f)) ge #[zI f] 42:=upd_cells ge _ [zI f] 0 w1 _ hE;simp [go_sem,hc,hz,Exit.thenS];generalize w1.setCell ⟨ge,0,none⟩ (zI f)=W2 at *;have hE2:=hU.blk;have hN2:=hU.keep hN h1;have hA2:=hU.keep hA h2;have q0:W2.cell? ⟨ge,0,none⟩=some (zI f):=hE2.cell 0;have q1:W2.cell? ⟨gn,0,none⟩=some (zI m0):=hN2.cell 0;have nf:(f != 0)=true:=by simpa using hf
 change Code.wpS _ _ _ { tmps:=#[.pointer (some ⟨ge,0,none⟩),.pointer (some ⟨gn,0,none⟩),.pointer (some ⟨ga,0,none⟩),refV f,zI f,undef,undef,undef],defers:=[] } _ _;apply wpS_of_wp;have HA2:Hid (Blk W2 ga #[zI a0] 3):=hA2;have HU:Hid (Upd w1 W2 ge #[zI f] 42):=hU;have HB:Hid (Below w.heap.size w w1):=hb1;clear hf he hn ha hE hN hA hc hz hU hE2 hN2 hA2 hb1 hu;go_wp2_with (first | (refine wp_let1 rfl 3 _ _ rfl ga 0 rfl .i64 m0 rfl (by kernel_rfl) #[zI a0] 3 HA2.o (by simp) ?_) | fail)
 intro W3 hU3;have HU3:Hid (Upd W2 W3 ga #[zI m0] 3):=hU3;clear hU3;go_wp2_with fail;simp [bodyPostS,results,Tryz.results75,settle];exact ⟨w1,HB.o,W2,HU.o,HU3.o⟩
theorem of_idle (ge gn ga:Nat) (f0:Int) (w:World) (he:Blk w ge #[zI f0] 42) :
  CallsD Tryz.prog 75 #[.pointer (some ⟨ge,0,none⟩),.pointer (some ⟨gn,0,none⟩),.pointer (some ⟨ga,0,none⟩)] .returning w fun e u' w'=>e = .returned (.tuple #[])∧settle u' = .returning∧∃ W,Below w.heap.size w W∧Upd W w' ge #[zI 0] 42:=by
 refine callsD_of_wpS Tryz.func75 rfl fun c₀ cs hu=>?_;apply wpS_seq;apply wpS_region;simp [wpOpsS,go_sem,recoverD,hu,Tryz.ntmps75,Exit.thenS];refine (reason_nil w).mono ?_;rintro e w1 ⟨rfl,rfl⟩;have hc:w1.cell? ⟨ge,0,none⟩=some (zI f0):=he.cell 0;have hz:w1.frozen? ⟨ge,0,none⟩=false:=he.free 0;have hU:Upd w1 (w1.setCell ⟨ge,0,none⟩ (zI 0)) ge #[zI 0] 42:=upd_cells ge _ [zI 0] 0 w1 _ he;simp [go_sem,hc,hz,Exit.thenS];generalize w1.setCell ⟨ge,0,none⟩ (zI 0)=W2 at *;have q0:W2.cell? ⟨ge,0,none⟩=some (zI 0):=hU.blk.cell 0;change Code.wpS _ _ _ { tmps:=#[.pointer (some ⟨ge,0,none⟩),.pointer (some ⟨gn,0,none⟩),.pointer (some ⟨ga,0,none⟩),.nilIface,zI 0,undef,undef,undef],defers:=[] } _ _;apply wpS_of_wp;have HU:Hid (Upd w1 W2 ge #[zI 0] 42):=hU;have HH:Hid (c₀.mode = .returning):=hu;clear he hc hz hU hu;go_wp2_with fail;have hu:=HH.o;have hU:=HU.o;simp [bodyPostS,results,Tryz.results75,hu,settle];exact ⟨.returning,(by cases c₀;simp_all),rfl,w1,Below.refl _ _,hU⟩
end book
end Go.Proofs.YtdpfnedfakgolaaGreatDoor
