import Derived.Test.YtdpfnedfakgolaaGreatDoorVVPer5
import Derived.Test.YtdpfnedfakgolaaGreatDoorVVPer6
set_option linter.unusedVariables false
set_option linter.unusedSimpArgs false
set_option maxHeartbeats 4000000
set_option maxRecDepth 100000
namespace Go.Proofs.YtdpfnedfakgolaaGreatDoor
namespace book
open Go.RowKit
def leftE (v:Ev):Ev:=if v.kd=2 then ⟨0,0,0,0,0,0,0,0,0,0,0,v.ow,v.bp⟩ else if v.kd=3 then ⟨0,0,0,0,v.te,v.de,v.fe,v.pr,v.ch,0,0,v.ow,v.bp⟩ else if v.kd=4 then ⟨0,0,v.mo,0,v.te,v.de,v.fe,v.pr,v.ch,v.un,0,v.ow,v.bp⟩ else if v.kd=5 then ⟨0,0,v.mo,v.id,v.te,v.de,v.fe,v.pr,v.ch,v.un,v.tg,0,0⟩ else ⟨0,0,v.mo,v.id,v.te,v.de,v.fe,v.pr,v.ch,v.un,v.tg,v.ow,v.bp⟩
def Numd (id tg:Int):Prop:=(1≤id∧id≤1048575)∧0≤tg∧tg≤65535
def Unt (un:Int):Prop:=1≤un∧un≤2097151
def Mon (mo:Int):Prop:=0≤mo∧mo≤2399
def Mony (te de fe pr ch:Int):Prop:=(1≤te∧te≤100000000)∧((0≤de∧de≤100000000)∧(0≤fe∧fe≤100000000)∧(0≤pr∧pr≤100000000)∧0≤ch∧ch≤100000000)∧de+fe+pr+ch=te
def Dbt (ow bp:Int):Prop:=(1≤ow∧ow≤1000000000)∧0≤bp∧bp≤10000
def KindR (v:Ev):Prop:=v.kd=1∨(v.kd=2∧Mon v.mo∧Numd v.id v.tg∧Unt v.un∧Mony v.te v.de v.fe v.pr v.ch)∨(v.kd=3∧Mon v.mo∧Numd v.id v.tg∧Unt v.un)∨(v.kd=4∧Numd v.id v.tg)∨(v.kd=5∧Dbt v.ow v.bp)
theorem may_iff (v:Ev):EMay v↔(0≤v.me∧v.me≤49)∧KindR v∧leftE v=ev0:=by
 obtain ⟨kd,me,mo,id,te,de,fe,pr,ch,un,tg,ow,bp⟩:=v;unfold EMay KindR leftE ev0 Numd Unt Mon Mony Dbt;simp only;by_cases h1:kd=1
 ·subst h1;simp
 by_cases h2:kd=2
 ·subst h2;simp;intro _ _;constructor <;> intro h <;> omega
 by_cases h3:kd=3
 ·subst h3;simp;intro _ _;constructor <;> intro h <;> omega
 by_cases h4:kd=4
 ·subst h4;simp;intro _ _;constructor <;> intro h <;> omega
 by_cases h5:kd=5
 ·subst h5;simp;intro _ _;constructor <;> intro h <;> omega
 constructor
 ·rintro ⟨_,h | h | h⟩
  ·exact absurd h.1 h1
  ·exact absurd h.1 h5
  ·have:=h.1;omega
 ·rintro ⟨_,h | h | h | h | h,_⟩
  ·exact absurd h h1
  ·exact absurd h.1 h2
  ·exact absurd h.1 h3
  ·exact absurd h.1 h4
  ·exact absurd h.1 h5
theorem kind_2 {v:Ev} (h:v.kd=2):KindR v↔Mon v.mo∧Numd v.id v.tg∧Unt v.un∧Mony v.te v.de v.fe v.pr v.ch:=by simp [KindR,h]
theorem kind_3 {v:Ev} (h:v.kd=3):KindR v↔Mon v.mo∧Numd v.id v.tg∧Unt v.un:=by simp [KindR,h]
theorem kind_4 {v:Ev} (h:v.kd=4):KindR v↔Numd v.id v.tg:=by simp [KindR,h]
theorem kind_5 {v:Ev} (h:v.kd=5):KindR v↔Dbt v.ow v.bp:=by simp [KindR,h]
def YN (w:World) (P:Prop) (e:Ending) (w':World):Prop:=∃ B,e = .returned (.bool B)∧(B=true↔P)∧Below w.heap.size w w'
theorem YN.yes {w w':World} {P:Prop} (h:P) (hb:Below w.heap.size w w'):YN w P (.returned (.bool true)) w':=⟨true,rfl,⟨fun _=>h,fun _=>rfl⟩,hb⟩
theorem YN.no {w w':World} {P:Prop} (h:¬ P) (hb:Below w.heap.size w w'):YN w P (.returned (.bool false)) w':=⟨false,rfl,⟨fun q=>(by cases q),fun q=>absurd q h⟩,hb⟩
end book
namespace deb
open tar (Du du0 Came RowD Ld ErrPost TwoPost PairT)
open Go.RowKit
def SharePost (ls:List Du) (t bp:Int) (w:World) (e:Ending) (w':World):Prop:=∃ s f,e = .returned (.tuple #[zI s,zI f])∧((¬ Mays ls∧FaultIs ls f∧s=0)∨(Mays ls∧ShareIs t bp s f))∧Below w.heap.size w w'
theorem pshare (a:Option Addr) (len cap:Nat) (ls:List Du) (t bp:Int) (w:World) (hr:RowD w a len ls) (hl:len≤maxLen):Calls Tryz.prog 142 #[.slice a len cap,zI t,zI bp] w fun e w'=>SharePost ls t bp w e w':=by
 have HFA:Hid (Calls Tryz.prog 150 #[.slice a len cap] w fun e w'=>∃ f,e = .returned (zI f)∧FaultIs ls f∧Below w.heap.size w w'):=pcheck a len cap ls w hr hl;have HIT:Hid (∀ W,Calls Tryz.prog 153 #[zI 0,zI 100000000,zI t] W fun e w'=>e = .returned (.bool (decide (0≤t∧t≤100000000)))∧w'=W):=fun W=>dwithin 0 100000000 t W;clear hr hl;go_enter Tryz.func142,Tryz.ntmps142;go_wp2_with fail;refine HFA.o.mono ?_;rintro e w1 ⟨f,rfl,hf,hb1⟩;have HB1:Hid (Below w.heap.size w w1):=hb1;have HF:Hid (FaultIs ls f):=hf;clear hb1 HFA;by_cases h0:f=0
 ·subst h0;have HM:Hid (Mays ls):=hf.ok.1 rfl;clear hf HF;by_cases ht:0≤t∧t≤100000000
  ·rw [decide_eq_true ht] at HIT;by_cases hb:0≤bp∧bp≤10000
   ·have HPA:Hid (∀ W,Calls Tryz.prog 124 #[zI t,zI bp] W fun e w'=>e = .returned (.tuple #[zI (t*bp / 10000),zI 0])∧Below W.heap.size W w'):=fun W=>cents.part_yes t bp W ht.1 (by omega) hb.1 hb.2;have HT:Hid (TMay t bp):=⟨ht,hb⟩
    clear ht hb;go_wp2_with fail;refine (HIT.o _).mono ?_;rintro e w2 ⟨rfl,hw2⟩;subst hw2;go_wp2_with fail;refine (HPA.o _).mono ?_;rintro e w3 ⟨rfl,hb3⟩;have HB3:=shB HB1 hb3;clear hb3;go_wp2_with fail;go_ret2;exact ⟨_,_,rfl,.inr ⟨HM.o,.inl ⟨HT.o,rfl,rfl⟩⟩,HB3.o⟩
   ·have HPA:Hid (∀ W,Calls Tryz.prog 124 #[zI t,zI bp] W fun e w'=>e = .returned (.tuple #[zI 0,zI 2])∧Below W.heap.size W w'):=fun W=>cents.part_no t bp W (.inr (by omega));have HT:Hid (¬ TMay t bp):=fun h=>hb h.2;clear ht hb;go_wp2_with fail;refine (HIT.o _).mono ?_;rintro e w2 ⟨rfl,hw2⟩;subst hw2;go_wp2_with fail;refine (HPA.o _).mono ?_;rintro e w3 ⟨rfl,hb3⟩;have HB3:=shB HB1 hb3;clear hb3;go_wp2_with fail;go_ret2;exact ⟨_,_,rfl,.inr ⟨HM.o,.inr ⟨HT.o,rfl,rfl⟩⟩,HB3.o⟩
  ·rw [decide_eq_false ht] at HIT;have HT:Hid (¬ TMay t bp):=fun h=>ht h.1;clear ht;go_wp2_with fail;refine (HIT.o _).mono ?_;rintro e w2 ⟨rfl,hw2⟩;subst hw2;go_wp2_with fail;go_ret2;exact ⟨_,_,rfl,.inr ⟨HM.o,.inr ⟨HT.o,rfl,rfl⟩⟩,HB1.o⟩
 ·have hne:(f != 0)=true:=by simpa using h0
  have HN:Hid (¬ Mays ls):=fun h=>h0 (hf.ok.2 h);clear hf h0 HIT;go_wp2_with fail;go_ret2;exact ⟨_,_,rfl,.inl ⟨HN.o,HF.o,rfl⟩,HB1.o⟩
end deb
namespace tar
open Go.RowKit
abbrev Ln:={ t:Tr // LineOk t }
def encL (t:Ln):Array Value:=#[.agg #[zI t.1.a,zI t.1.b,zI t.1.c]]
def lns (l:List Ln):List Tr:=l.map (fun t=>t.1)
theorem lns_app (l m:List Ln):lns (l++m)=lns l++lns m:=by unfold lns;rw [List.map_append]
theorem lns_len (l:List Ln):(lns l).length=l.length:=by unfold lns;rw [List.length_map]
theorem lns_ok (l:List Ln):∀ t∈lns l,LineOk t:=fun t ht=>by
 unfold lns at ht;obtain ⟨s,_,rfl⟩:=List.mem_map.1 ht;exact s.2
def Kq (n lo hi:Nat) (W W':World):Prop:=Below n W W'∧∀ j,lo≤j→j<hi→W'.heap[j]?=W.heap[j]?
theorem Kq.trans {n lo hi:Nat} {A B C:World} (h:Kq n lo hi A B) (k:Kq n lo hi B C):Kq n lo hi A C:=⟨h.1.trans k.1,fun j a b=>(k.2 j a b).trans (h.2 j a b)⟩
theorem nxt_yes {l:List Du} (h:Right l) (x y:Int) (hx:0≤x) (hxy:x≤y) (k:Nat) (hk:k<l.length) (hp:0<min (l.getD k du0).a y - (x+manyK l x y k)):min (l.getD k du0).a y - (x+manyK l x y k)=ov (low l k) (l.getD k du0).a x y:=by
 have h1:=many_eq h x y hx hxy k (by omega);have h2:=h.rise k hk;have h3:=h.low_pos k (by omega);rw [h1] at hp ⊢;unfold ov;omega
theorem nxt_no {l:List Du} (h:Right l) (x y:Int) (hx:0≤x) (hxy:x≤y) (k:Nat) (hk:k<l.length) (hp:¬ 0<min (l.getD k du0).a y - (x+manyK l x y k)):ov (low l k) (l.getD k du0).a x y=0:=by
 have h1:=many_eq h x y hx hxy k (by omega);have h2:=h.rise k hk;have h3:=h.low_pos k (by omega);rw [h1] at hp;unfold ov;omega
theorem many_next (l:List Du) (x y:Int) (k:Nat):manyK l x y (k+1)=manyK l x y k+ov (low l k) (l.getD k du0).a x y:=rfl
theorem many_bd {l:List Du} (h:Right l) (x y:Int) (hx:0≤x) (hxy:x≤y) (k:Nat) (hk:k≤l.length):0≤manyK l x y k∧manyK l x y k≤y - x:=by
 rw [many_eq h x y hx hxy k hk];omega
theorem line_ok {l:List Du} (h:Right l) (x y:Int) (k:Nat) (hk:k<l.length) (hp:0<ov (low l k) (l.getD k du0).a x y):LineOk ⟨ov (low l k) (l.getD k du0).a x y,(l.getD k du0).b,ov (low l k) (l.getD k du0).a x y*(l.getD k du0).b⟩:=by
 have h1:=h.price k hk;have h2:=h.upto k hk;have h3:=h.low_pos k (by omega);exact ⟨by show 1≤ov _ _ _ _;omega,ov_le _ _ _ _ h3 h2.2,h1.1,h1.2,rfl⟩
theorem bill_prefix (l:List Du) (x y:Int) (k m:Nat) (hkm:k≤m):billK l x y k <+: billK l x y m:=by
 induction m with
 | zero=>
  have:k=0:=by omega
  subst this;exact List.prefix_refl _
 | succ m ih=>
  by_cases e:k=m+1
  ·subst e;exact List.prefix_refl _
  ·exact (ih (by omega)).trans (List.prefix_append (billK l x y m) (if 0<ov (low l m) (l.getD m du0).a x y then [⟨ov (low l m) (l.getD m du0).a x y,(l.getD m du0).b,ov (low l m) (l.getD m du0).a x y*(l.getD m du0).b⟩] else []))
open Go.Shelf
attribute [local go_sem] Oper.semAt_some
theorem boxed_same {W W':World} {B:Nat} {t:TypeId} {v:Value} (h:Boxed W B t v) (e:W'.heap[B]?=W.heap[B]?):Boxed W' B t v:=e.trans h
theorem lines1_in (F:Fence) (n:Nat) (hF:F.fn 154) (hro:F.round=none) (hn:1≤n) (l Bf Bt Bu n₀ lo hi b off len cap B0:Nat) (ls:List Du) (x u:Int) (J Jx:List Ln→World→Prop)
  (hR:Right ls) (hlen:ls.length=len) (hx:0≤x∧x≤10000000) (hu:0≤u∧x+u≤10000000) (hJ:AbidesFrom B0 J)
  (hY:∀ pre t W,J pre W→pre.length<len→YieldAt F (n - 1) Tryz.prog l (encL t) W fun e W'=>
   (e = .returned (.bool true)∧J (pre++[t]) W'∧Kq n₀ lo hi W W')∨(e = .returned (.bool false)∧Jx (pre++[t]) W'))
  (W:World) (hf:Boxed W Bf 3 (zI x)) (ht:Boxed W Bt 28 (.slice (some ⟨b,off,none⟩) len cap)) (hun:Boxed W Bu 3 (zI u)) (h1:lo≤Bf∧Bf<hi) (h2:lo≤Bu∧Bu<hi) (hb:b<n₀) (hnW:n₀≤W.heap.size)
  (hc:∀ i,i<len→W.cell? ⟨b,off+i*2,none⟩=some (zI (ls.getD i du0).a)∧W.cell? ⟨b,off+i*2+1,none⟩=some (zI (ls.getD i du0).b)) (h0:J [] W) :
  CallsIn F n Tryz.prog 154 #[.func (.yield l) #[] #[],.pointer (some ⟨Bf,0,none⟩),.pointer (some ⟨Bt,0,none⟩),.pointer (some ⟨Bu,0,none⟩)] W fun e W'=>(∃ v,e = .returned v) ∧
   ((∃ ys,lns ys=billK ls x (x+u) len∧J ys W')∨(∃ pre,lns pre <+: billK ls x (x+u) len∧Jx pre W')):=by
 have HR:Hid (Right ls):=hR
 have HY:Hid (∀ pre t W,J pre W→pre.length<len→YieldAt F (n - 1) Tryz.prog l (encL t) W fun e W'=>
   (e = .returned (.bool true)∧J (pre++[t]) W'∧Kq n₀ lo hi W W')∨(e = .returned (.bool false)∧Jx (pre++[t]) W')):=hY
 have HJ:Hid (AbidesFrom B0 J):=hJ;have HC:Hid (∀ i,i<len→W.cell? ⟨b,off+i*2,none⟩=some (zI (ls.getD i du0).a)∧W.cell? ⟨b,off+i*2+1,none⟩=some (zI (ls.getD i du0).b)):=hc;have HLEN:Hid (ls.length=len):=hlen;have hl8:len≤8:=by have:=hR.1.2;omega
 have ct:=ht.cell;have cf:=hf.cell;obtain ⟨hx0,hx1⟩:=hx;obtain ⟨hu0,hu1⟩:=hu;have HX:Hid (0≤x∧x≤x+u∧x+u≤10000000):=⟨hx0,by omega,hu1⟩
 clear hR hY hJ hc hlen;refine callsIn_of_wp Tryz.func154 rfl hF ?_ hro;simp only [Tryz.ntmps154,List.size_toArray,List.length_cons,List.length_nil,Nat.reduceAdd,Nat.reduceSub,Array.replicate_succ,Array.replicate_zero,List.push_toArray,List.append_toArray,List.nil_append,List.cons_append]
 gi_wp2
 gi_loopw [5,12] (fun r i wr=>∃ (k:Nat) (pre:List Ln),k≤len∧i=zI (k:Int)∧r=zI (x+manyK ls x (x+u) k)∧lns pre=billK ls x (x+u) k∧J pre wr∧Boxed wr Bf 3 (zI x)∧Boxed wr Bu 3 (zI u)∧Below n₀ W wr) (fun _ i _=>len - (intOf i).toNat)
 case atStart=>exact ⟨0,[],Nat.zero_le _,rfl,by show _=Value.int .i64 (x+0);rw [Int.add_zero],rfl,h0,hf,hun,Below.refl _ _⟩
 case round=>
  obtain ⟨k,pre,hk,rfl,rfl,hpre,hj,hbf,hbu,hbl⟩:=hrel;have HPRE:Hid (lns pre=billK ls x (x+u) k):=hpre;have HJP:Hid (J pre wr):=hj;have HBF:Hid (Boxed wr Bf 3 (zI x)):=hbf;have HBU:Hid (Boxed wr Bu 3 (zI u)):=hbu;have HBL:Hid (Below n₀ W wr):=hbl;clear hpre hj hf hun ht ct cf;by_cases hlt:k<len
  ·have hdl:decide ((k:Int)<(len:Int))=true:=by simp;omega
   have c0:wr.cell? ⟨b,off+k*2,none⟩=some (zI (ls.getD k du0).a):=(hbl.cell (p:=⟨b,off+k*2,none⟩) hb).trans (HC.o k hlt).1;have c1:wr.cell? ⟨b,off+k*2+1,none⟩=some (zI (ls.getD k du0).b):=(hbl.cell (p:=⟨b,off+k*2+1,none⟩) hb).trans (HC.o k hlt).2;have hkl:k<ls.length:=by rw [HLEN.o];exact hlt
   have hpr:=HR.o.price k hkl;have hup:=HR.o.upto k hkl;have hmb:=many_bd HR.o x (x+u) hx0 (by omega) k (by omega);have hmin:=run_min (ls.getD k du0).a (x+u) _ rfl
   have hpl:pre.length<len:=by
    have e1:=lns_len pre;have e2:=bill_len ls x (x+u) k;rw [HPRE.o] at e1;omega
   have HBA:Hid (∀ o,Below n₀ W (wr.alloc o)):=fun o=>hbl.alloc (Nat.le_trans hnW hbl.size) o;have cf:∀ o,(wr.alloc o).cell? ⟨Bf,0,none⟩=some (zI x):=fun o=>(hbf.alloc o).cell;have cu:∀ o,(wr.alloc o).cell? ⟨Bu,0,none⟩=some (zI u):=fun o=>(hbu.alloc o).cell;have HFA:Hid (∀ o,Boxed (wr.alloc o) Bf 3 (zI x)):=fun o=>hbf.alloc o;have HUA:Hid (∀ o,Boxed (wr.alloc o) Bu 3 (zI u)):=fun o=>hbu.alloc o;have HJA:Hid (∀ o,J pre (wr.alloc o)):=fun o=>HJ.o pre wr _ none HJP.o (World.grownBy_alloc wr o none) (fun r e=>by cases e);clear hbf hbu hbl;by_cases hp:0<min (ls.getD k du0).a (x+u) - (x+manyK ls x (x+u) k)
   ·have ho:=nxt_yes HR.o x (x+u) hx0 (by omega) k hkl hp;have hp2:=hp;rw [ho] at hp2;have hok:=line_ok HR.o x (x+u) k hkl hp2;have HN:Hid (billK ls x (x+u) (k+1)=billK ls x (x+u) k++[⟨ov (low ls k) (ls.getD k du0).a x (x+u),(ls.getD k du0).b,ov (low ls k) (ls.getD k du0).a x (x+u)*(ls.getD k du0).b⟩]):=billK_yes ls x (x+u) k hp2;have HM:Hid (manyK ls x (x+u) (k+1)=manyK ls x (x+u) k+ov (low ls k) (ls.getD k du0).a x (x+u)):=many_next ls x (x+u) k;have hm2:=many_bd HR.o x (x+u) hx0 (by omega) (k+1) (by omega);rw [HM.o] at hm2;have hle:=ov_le (low ls k) (ls.getD k du0).a x (x+u) (HR.o.low_pos k (by omega)) hup.2;have hpb:=prod_bd (Int.le_of_lt hp2) hle hpr.1 hpr.2;generalize ov (low ls k) (ls.getD k du0).a x (x+u)=o at *;generalize manyK ls x (x+u) k=mk at *;generalize (ls.getD k du0).a=up at *;generalize (ls.getD k du0).b=p at *;generalize min up (x+u)=m at *;have hm:m - (x+mk)=o:=ho;have hdo:decide (o≤0)=false:=by simp;omega
    have HQ:Hid (∀ C,YieldAt F (n - 1) Tryz.prog l (encL ⟨⟨o,p,o*p⟩,hok⟩) (wr.alloc C) fun e W'=>
     (e = .returned (.bool true)∧J (pre++[⟨⟨o,p,o*p⟩,hok⟩]) W'∧Kq n₀ lo hi (wr.alloc C) W')∨(e = .returned (.bool false)∧Jx (pre++[⟨⟨o,p,o*p⟩,hok⟩]) W')):=fun C=>HY.o pre ⟨⟨o,p,o*p⟩,hok⟩ _ (HJA.o C) hpl
    obtain ⟨fn,tmps,assign,body,hy,hRd⟩:=HQ.o (.cells #[zI up,zI p] 170)
    have HNX:Hid (lns (pre++[⟨⟨o,p,o*p⟩,hok⟩])=billK ls x (x+u) (k+1)):=by
     show _=_;rw [lns_app,HPRE.o,HN.o];rfl
    have hpb0:=hpb.1;have hpb1:=hpb.2;have hxm0:0≤x+mk:=by omega
    have hxm1:x+mk≤10000000:=by omega
    have hm0:0≤m:=by omega
    have hm1:m≤20000000:=by omega
    have hs1:x+mk+o≤10000000:=by omega
    have ho0:0≤o:=by omega
    simp only [encL] at hy;clear ho hp HQ hmb hm2 hpb hpr hup
    gi_wp2
    refine hRd.mono ?_;rintro e W3 (⟨rfl,hJ3,hk3⟩ | ⟨rfl,hJx3⟩)
    ·have HB3:Hid (Below n₀ W W3):=(HBA.o _).trans hk3.1;have HF3:Hid (Boxed W3 Bf 3 (zI x)):=boxed_same (HFA.o _) (hk3.2 Bf h1.1 h1.2);have HU3:Hid (Boxed W3 Bu 3 (zI u)):=boxed_same (HUA.o _) (hk3.2 Bu h2.1 h2.2);have HJ3:Hid (J (pre++[⟨⟨o,p,o*p⟩,hok⟩]) W3):=hJ3;clear hk3 hJ3
     gi_wp2
     go_roundw
     case rel=>exact ⟨k+1,pre++[⟨⟨o,p,o*p⟩,hok⟩],by omega,by go_num,by rw [HM.o,Int.add_assoc],HNX.o,HJ3.o,HF3.o,HU3.o,HB3.o⟩
     case measure=>simp [intOf];omega
    ·have HJX:Hid (Jx (pre++[⟨⟨o,p,o*p⟩,hok⟩]) W3):=hJx3;clear hJx3
     gi_wp2
     refine bodyPost_ret (results_none rfl _ _ _) rfl ?_;exact ⟨⟨_,rfl⟩,.inr ⟨pre++[⟨⟨o,p,o*p⟩,hok⟩],by rw [HNX.o];exact bill_prefix ls x (x+u) (k+1) len (by omega),HJX.o⟩⟩
   ·have ho:=nxt_no HR.o x (x+u) hx0 (by omega) k hkl hp;have hmz:0≤min (ls.getD k du0).a (x+u):=by omega
    have HN:Hid (billK ls x (x+u) (k+1)=billK ls x (x+u) k):=billK_no ls x (x+u) k (by omega);have HM:Hid (manyK ls x (x+u) (k+1)=manyK ls x (x+u) k):=by show _=_;rw [many_next,ho,Int.add_zero]
    generalize manyK ls x (x+u) k=mk at *;generalize (ls.getD k du0).a=up at *;generalize (ls.getD k du0).b=p at *;generalize min up (x+u)=m at *;have hxm0:0≤x+mk:=by omega
    have hxm1:x+mk≤10000000:=by omega
    have hdo:decide (m - (x+mk)≤0)=true:=by simp;omega
    have hm0:0≤m:=hmz;have hm1:m≤20000000:=by omega
    clear ho hp hmb hpr hup
    gi_wp2
    go_roundw
    case rel=>exact ⟨k+1,pre,by omega,by go_num,by rw [HM.o],by rw [HN.o];exact HPRE.o,HJA.o _,HFA.o _,HUA.o _,HBA.o _⟩
    case measure=>simp [intOf];omega
  ·obtain rfl:k=len:=by omega
   have hdl:decide ((k:Int)<(k:Int))=false:=by simp
   clear hbf hbu hbl
   gi_wp2
   go_end0;exact ⟨⟨_,rfl⟩,.inl ⟨pre,HPRE.o,HJP.o⟩⟩
theorem ov_before {l:List Du} (h:Right l) (x y z:Int) (k j:Nat) (hk:k<l.length) (hj:j<k) (hy:low l k≤y) (hz:low l k≤z):ov (low l j) (l.getD j du0).a x z=ov (low l j) (l.getD j du0).a x y:=by
 have h1:=low_mono h (j+1) k (by omega) (by omega);rw [low_next] at h1;unfold ov;omega
theorem costK_before {l:List Du} (h:Right l) (x y z:Int) (k j:Nat) (hk:k<l.length) (hj:j≤k) (hy:low l k≤y) (hz:low l k≤z):costK l x z j=costK l x y j:=by
 induction j with
 | zero=>rfl
 | succ j ih=>rw [costK_next,costK_next,ih (by omega),ov_before h x y z k j hk (by omega) hy hz]
theorem costK_behind {l:List Du} (h:Right l) (x z:Int) (k j:Nat) (hkj:k≤j) (hj:j≤l.length) (hz:z≤low l k):costK l x z j=costK l x z k:=by
 induction j with
 | zero=>
  have:k=0:=by omega
  subst this;rfl
 | succ j ih=>
  by_cases e:k=j+1
  ·subst e;rfl
  ·have h1:=ih (by omega) (by omega);have h2:=low_mono h k j (by omega) (by omega);rw [costK_next,h1,show ov (low l j) (l.getD j du0).a x z=0 by unfold ov;omega];omega
theorem cost_part {l:List Du} (h:Right l) (x y:Int) (hx:0≤x) (hxy:x≤y) (k:Nat) (hk:k<l.length) (q:Int) (hq:0≤q) (hq2:q≤ov (low l k) (l.getD k du0).a x y) (hp:0<ov (low l k) (l.getD k du0).a x y) :
  cost l x (x+(manyK l x y k+q))=costK l x y k+q*(l.getD k du0).b:=by
 have h1:=many_eq h x y hx hxy k (by omega);have h2:=h.rise k hk;have h3:=h.low_pos k (by omega);have hlo:low l k≤y:=by unfold ov at hp;omega
 have hz:low l k≤x+(manyK l x y k+q):=by rw [h1];omega
 have hz2:x+(manyK l x y k+q)≤low l (k+1):=by rw [h1,low_next];unfold ov at hq2 hp;omega
 unfold cost;rw [costK_behind h x _ (k+1) l.length (by omega) (Nat.le_refl _) hz2,costK_next,costK_before h x y _ k k hk (Nat.le_refl _) hlo hz];rw [show ov (low l k) (l.getD k du0).a x (x+(manyK l x y k+q))=q by rw [h1];unfold ov at hq2 hp ⊢;omega]
theorem bill_at (l:List Du) (x y:Int) (n:Nat) (p:List Tr) (t:Tr) (h:p++[t] <+: billK l x y n):∃ k,k<n∧p=billK l x y k∧0<ov (low l k) (l.getD k du0).a x y∧t=⟨ov (low l k) (l.getD k du0).a x y,(l.getD k du0).b,ov (low l k) (l.getD k du0).a x y*(l.getD k du0).b⟩:=by
 induction n with
 | zero=>
  have:=h.length_le;simp [billK] at this
 | succ n ih=>
  by_cases hp:0<ov (low l n) (l.getD n du0).a x y
  ·rw [billK_yes l x y n hp] at h;rcases List.prefix_concat_iff.1 h with h | h
   ·obtain ⟨h1,h2⟩:=List.append_inj' h rfl;exact ⟨n,by omega,h1,hp,by simpa using h2⟩
   ·obtain ⟨k,a,b⟩:=ih h;exact ⟨k,by omega,b⟩
  ·rw [billK_no l x y n hp] at h;obtain ⟨k,a,b⟩:=ih h;exact ⟨k,by omega,b⟩
theorem top_bd {x:Int} (hx:0≤x∧x≤10000000):0≤Top x∧x+Top x≤10000000:=by unfold Top;omega
theorem most_all {l:List Du} (h:Right l) (x m:Int) (hx:0≤x∧x≤10000000) (hm:sumC (billK l x (x+Top x) l.length)≤m):MostOf l x m (sumA (billK l x (x+Top x) l.length))∧sumC (billK l x (x+Top x) l.length)=cost l x (x+sumA (billK l x (x+Top x) l.length)):=by
 have ht:=top_bd hx;have h1:=bill_sums l x (x+Top x) l.length;have h2:=many_all h x (x+Top x) hx.1 (by omega) ht.2;have e:sumA (billK l x (x+Top x) l.length)=Top x:=by rw [h1.1,h2];omega
 have e2:sumC (billK l x (x+Top x) l.length)=cost l x (x+Top x):=h1.2;rw [e,e2];rw [e2] at hm;exact ⟨⟨⟨ht.1,Int.le_refl _⟩,hm,.inl rfl⟩,rfl⟩
theorem most_cut {l:List Du} (h:Right l) (x m q:Int) (hx:0≤x∧x≤10000000) (p:List Tr) (t:Tr) (hpre:p++[t] <+: billK l x (x+Top x) l.length) (hq0:0≤q) (hq:q<t.a) (h1:sumC p+q*t.b≤m) (h2:m<sumC p+(q+1)*t.b) :
  MostOf l x m (sumA p+q)∧sumC p+q*t.b=cost l x (x+(sumA p+q)):=by
 have ht:=top_bd hx;obtain ⟨k,hk,rfl,hp,rfl⟩:=bill_at l x (x+Top x) l.length p t hpre;have hs:=bill_sums l x (x+Top x) k;rw [hs.1,hs.2];rw [hs.2] at h1 h2;dsimp only at hq h1 h2 ⊢;have e1:=cost_part h x (x+Top x) hx.1 (by omega) k hk q hq0 (by omega) hp;have e2:=cost_part h x (x+Top x) hx.1 (by omega) k hk (q+1) (by omega) (by omega) hp;have hb:=many_bd h x (x+Top x) hx.1 (by omega) k (by omega);have hb2:=many_bd h x (x+Top x) hx.1 (by omega) (k+1) (by omega);rw [many_next] at hb2;rw [e1];refine ⟨⟨⟨by omega,by omega⟩,by rw [e1];exact h1,.inr ?_⟩,rfl⟩;rw [show manyK l x (x+Top x) k+q+1=manyK l x (x+Top x) k+(q+1) by omega,e2];exact h2
theorem sums_bd (l:List Tr) (h:∀ t∈l,LineOk t):(0≤sumA l∧sumA l≤(l.length:Int)*10000000)∧0≤sumC l:=by
 induction l with
 | nil=>exact ⟨⟨Int.le_refl _,Int.le_refl _⟩,Int.le_refl _⟩
 | cons t l ih=>
  have h1:=ih fun x hx=>h x (List.mem_cons_of_mem _ hx);obtain ⟨a1,a2,a3,a4,a5⟩:=h t List.mem_cons_self;have h2:=prod_bd (show 0≤t.a by omega) a2 a3 a4;rw [← a5] at h2;have e:((t :: l).length:Int)=(l.length:Int)+1:=by simp
  rw [e,Int.add_mul];exact ⟨⟨by show 0≤t.a+sumA l;omega,by show t.a+sumA l≤_;omega⟩,by show 0≤t.c+sumC l;omega⟩
theorem quo_bd {d p q:Int} (hd:0≤d) (hp:1≤p) (hq:d / p=q):0≤q∧q*p≤d∧d<(q+1)*p∧q≤d:=by
 subst hq;have h1:=Int.ediv_nonneg hd (show 0≤p by omega);have h2:=Int.mul_ediv_self_le (x:=d) (k:=p) (by omega);have h3:=Int.lt_mul_ediv_self_add (x:=d) (k:=p) (by omega);have h4:d / p≤d:=Int.ediv_le_self _ hd;rw [Int.mul_comm] at h2 h3;exact ⟨h1,h2,by rw [Int.add_mul];omega,h4⟩
theorem snoc_one {p:List Ln} {t:Ln}:lns (p++[t])=lns p++[t.1]:=by rw [lns_app];rfl
theorem sums_one (p:List Ln) (t:Ln):sumA (lns (p++[t]))=sumA (lns p)+t.1.a∧sumC (lns (p++[t]))=sumC (lns p)+t.1.c:=by
 rw [snoc_one,sumA_app,sumC_app];exact ⟨by show _+(t.1.a+0)=_;omega,by show _+(t.1.c+0)=_;omega⟩
end tar
end Go.Proofs.YtdpfnedfakgolaaGreatDoor
