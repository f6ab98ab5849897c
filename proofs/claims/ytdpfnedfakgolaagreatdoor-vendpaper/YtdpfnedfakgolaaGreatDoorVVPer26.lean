import Derived.Test.YtdpfnedfakgolaaGreatDoorVVPer22
import Derived.Test.YtdpfnedfakgolaaGreatDoorVVPer24
set_option linter.unusedVariables false
set_option linter.unusedSimpArgs false
set_option maxHeartbeats 4000000
set_option maxRecDepth 100000
namespace Go.Proofs.YtdpfnedfakgolaaGreatDoor
namespace vnd
open disk (RepIs AppIs May repD lenAt appW)
open book (Ev ev0 EMay evL evOf EncIs DecIs Cm cm0 So so0 BookIs FirstAt NoneAt Tells billOf soldOf StepIs HapIs)
open acc (Ac Tm Bi SellIs GrantIs RekeyIs OweIs)
open ora (Pr IssueIs)
open cell (Wr wrt)
open rcp (Rc rc0)
def Three (bk:List Cm):Prop:=bk.length=3∧∀ i,i<3→(bk.getD i cm0).a.me=(i:Int)
theorem three_set {t:Tm} {bk:List Cm} {v:Ev} {k:Nat} {x:Cm} (h:Three bk) (hs:StepIs t bk v (bk.set k x) 0):Three (bk.set k x):=by
 have hg:=step_grows hs;refine ⟨by rw [List.length_set];exact h.1,fun i hi=>?_⟩;rw [(hg.2 i (by rw [h.1];exact hi)).1];exact h.2 i hi
theorem app_ne (c:List Int) (e:Nat) (v:Ev):appW c e (evL v)≠[]:=fun h=>by
 have:=disk.app_len c e (evL v);rw [h,book.evL_len] at this;simp only [List.length_nil] at this;split at this <;> omega
structure Stepped (t:Tm) (c:List Int) (n:Nat) (l:List Ev) (bk:List Cm) (v:Ev) (bk':List Cm) (ls:List Wr):Prop where
 ev:EMay v
 step:StepIs t bk v bk' 0
 keep:KeepIs c v ls 0
 some:ls≠[]
 whole:Shop t (wrt c ls) n (l++[v]) bk'
 torn:∀ k,k<ls.length→Shop t (wrt c (ls.take k)) n l bk
theorem stepped {t:Tm} {c:List Int} {n:Nat} {l:List Ev} {bk bk':List Cm} {v:Ev} {ls:List Wr} (h:Shop t c n l bk) (hn:l.length<120) (hf:14*l.length+13<n) (hv:EMay v) (hs:StepIs t bk v bk' 0) (hk:KeepIs c v ls 0):Stepped t c n l bk v bk' ls:=by
 obtain ⟨e,h1,h2⟩:=h.next hn hf hv hs hk;exact ⟨hv,hs,hk,by rw [e];exact app_ne _ _ _,h1,h2⟩
theorem serve_step {t:Tm} {c:List Int} {n:Nat} {l:List Ev} {bk:List Cm} {o:List Pr} {x:Od} {ls:List Wr} {o':List Pr} {r:Rc} (h:Shop t c n l bk) (h3:Three bk) (hn:l.length<120) (hf:14*l.length+13<n) (hs:ServedIs t c o x ls o' r 0):∃ v bk',Stepped t c n l bk v bk' ls∧Three bk':=by
 rcases hs with ⟨_,hc,_,_⟩ | ⟨_,hc⟩ | ⟨_,hc⟩ | ⟨_,hc⟩
 ·obtain ⟨k,b,_,hv,hst,hke⟩:=cha_step h.load hc;exact ⟨_,_,stepped h hn hf hv hst hke,three_set h3 hst⟩
 ·obtain ⟨k,b,l2,tg,_,_,_,hv,hst,hke,_⟩:=tok_step (.inr (.inl rfl)) h.load hc;exact ⟨_,_,stepped h hn hf hv hst hke,three_set h3 hst⟩
 ·obtain ⟨k,b,l2,tg,_,_,_,hv,hst,hke,_⟩:=tok_step (.inr (.inr ⟨rfl,rfl⟩)) h.load hc;exact ⟨_,_,stepped h hn hf hv hst hke,three_set h3 hst⟩
 ·obtain ⟨k,b,l2,tg,_,_,_,hv,hst,hke,_⟩:=tok_step (.inl rfl) h.load hc;exact ⟨_,_,stepped h hn hf hv hst hke,three_set h3 hst⟩
theorem serve_no {t:Tm} {c:List Int} {o:List Pr} {x:Od} {ls:List Wr} {o':List Pr} {r:Rc} {f:Int} (hs:ServedIs t c o x ls o' r f) (hf:f≠0):ls=[]∧r=rc0:=by
 rcases hs with ⟨_,⟨bk,g,_,⟨_,a,_⟩ | ⟨_,_,a,_⟩ | ⟨_,k,b,y,_,_,⟨_,a,_⟩ | ⟨_,a⟩⟩⟩,_,e⟩ | ⟨_,hc⟩ | ⟨_,hc⟩ | ⟨_,hc⟩
 ·exact ⟨a,e⟩
 ·exact ⟨a,e⟩
 ·exact ⟨a,e⟩
 ·exact ⟨a.no hf,e⟩
 ·exact ⟨(tok_no hc hf).1,(tok_no hc hf).2.2⟩
 ·exact ⟨(tok_no hc hf).1,(tok_no hc hf).2.2⟩
 ·exact ⟨(tok_no hc hf).1,(tok_no hc hf).2.2⟩
theorem shop_blank {t:Tm} (ht:acc.TRight t) {n:Nat} (h0:1≤n) (h1:n≤2048):Shop t (List.replicate n 0) n [] []:=
 ⟨List.length_replicate,disk.Tape.blank h0 h1,(fun v hv=>by cases hv),.inr (.inr ⟨ht,by simp,0,fun _=>[],rfl,(fun i hi=>absurd hi (Nat.not_lt_zero _)),.inl ⟨rfl,rfl,rfl,rfl⟩⟩)⟩
def Regs (bk:List Cm) (k:Nat):Prop:=bk.length=k∧∀ i,i<k→(bk.getD i cm0).a.me=(i:Int)
theorem Regs.none {bk:List Cm} {k:Nat} (h:Regs bk k):NoneAt bk (k:Int):=fun j hj=>by
 rw [h.1] at hj;rw [h.2 j hj];omega
theorem Regs.next {bk:List Cm} {k:Nat} (h:Regs bk k) (so:List So):Regs (bk++[⟨⟨(k:Int),0,1,0,0,-1,[]⟩,so⟩]) (k+1):=by
 refine ⟨by rw [List.length_append,h.1];rfl,fun i hi=>?_⟩;by_cases e:i<bk.length
 ·rw [getD_appC _ _ _ e];exact h.2 i (by rw [← h.1];exact e)
 ·obtain rfl:i=bk.length:=by have:=h.1;omega
  have:(bk++[(⟨⟨(k:Int),0,1,0,0,-1,[]⟩,so⟩:Cm)]).getD bk.length cm0=⟨⟨(k:Int),0,1,0,0,-1,[]⟩,so⟩:=by simp [List.getD]
  rw [this];show (k:Int)=_;rw [h.1]
theorem reg_yes {t:Tm} {c:List Int} {n:Nat} {l:List Ev} {bk:List Cm} {k:Nat} {ls:List Wr} {f:Int} (h:Shop t c n l bk) (hr:Regs bk k) (hk:k<50) (hn:l.length<120) (hf:14*l.length+13<n) (hs:RegIs t c (k:Int) ls f):f=0∧Stepped t c n l bk (regE (k:Int)) (bk++[⟨⟨(k:Int),0,1,0,0,-1,[]⟩,[]⟩]) ls:=by
 obtain ⟨bk',g,hl,hh⟩:=hs;obtain ⟨rfl,rfl⟩:=hl.one h.load;rcases hh with ⟨p,_⟩ | ⟨_,p,_⟩ | ⟨_,_,p,_⟩ | ⟨_,hm,hno,hke⟩
 ·exact absurd rfl p
 ·exact absurd ⟨by omega,by omega⟩ p
 ·exact absurd hr.none p
 ·have hev:EMay (regE (k:Int)):=⟨hm,.inl ⟨rfl,rfl,rfl,rfl,rfl,rfl,rfl,rfl,rfl,rfl,rfl,rfl⟩⟩
  obtain ⟨_,rfl⟩:=keep_tape h.tape h.may hev hn (by rw [h.len];exact hf) hke;exact ⟨rfl,stepped h hn hf hev (.inr (.inr (.inl ⟨hev,rfl,hno,rfl,rfl⟩))) hke⟩
end vnd
namespace cell
open Go.RowKit
def fv (B:Nat):Value:= .func (.func 39) #[] #[.pointer (some ⟨B,0,none⟩)]
theorem astray_any (B n cc:Nat) (ca:Option Addr) (e0:Wr) (W:World) (hc:W.cell? ⟨B,0,none⟩=some (.slice ca n cc)) (hB:B<W.heap.size) (hn:n≤2048) :
  Calls Tryz.prog 39 #[.agg #[zI e0.p,.int .u32 e0.d],.pointer (some ⟨B,0,none⟩)] W fun e w'=>e = .returned (.bool (!inN n e0))∧Below W.heap.size W w':=by
 obtain ⟨p,d⟩:=e0;have hc2:(W.alloc (.cells #[zI p,.int .u32 d] 118)).cell? ⟨B,0,none⟩=some (.slice ca n cc):=by rw [World.cell?_alloc_lt W _ _ hB];exact hc
 have HB:Hid (Below W.heap.size W (W.alloc (.cells #[zI p,.int .u32 d] 118))):=(Below.refl _ _).alloc (Nat.le_refl _) _;clear hc hB;by_cases h0:p<0
 ·have e1:(!inN n ⟨p,d⟩)=true:=by simp [inN];omega
  rw [e1];clear e1;go_enter Tryz.func39,Tryz.ntmps39;go_wp2_with fail;go_ret;exact ⟨rfl,HB.o⟩
 ·by_cases h1:p<n
  ·have e1:(!inN n ⟨p,d⟩)=false:=by simp [inN];omega
   have h2:decide ((n:Int)≤p)=false:=by simp;omega
   rw [e1];clear e1;go_enter Tryz.func39,Tryz.ntmps39;go_wp2_with fail;go_ret;exact ⟨rfl,HB.o⟩
  ·have e1:(!inN n ⟨p,d⟩)=true:=by simp [inN];omega
   have h2:decide ((n:Int)≤p)=true:=by simp;omega
   rw [e1];clear e1;go_enter Tryz.func39,Tryz.ntmps39;go_wp2_with fail;go_ret;exact ⟨rfl,HB.o⟩
def IxPost (w:World) (n:Nat) (ls:List Wr) (e:Ending) (w':World):Prop:=
 ∃ r:Int,e = .returned (zI r)∧(allN n ls=true∧r=-1∨allN n ls=false∧0≤r)∧Below w.heap.size w w'
theorem index_any (B n cc m c2:Nat) (ca b:Option Addr) (ls:List Wr) (w:World) (hc:w.cell? ⟨B,0,none⟩=some (.slice ca n cc)) (hn:n≤2048) (hr:RowW w b m ls) (hm:m≤4096) :
  Calls Tryz.prog 69 #[.slice b m c2,fv B] w fun e w'=>IxPost w n ls e w':=by
 have hB:=World.block_lt_of_cell? w _ hc
 have HC:Hid (∀ wr,Below w.heap.size w wr→∀ e0:Wr,Calls Tryz.prog 39 #[.agg #[zI e0.p,.int .u32 e0.d],.pointer (some ⟨B,0,none⟩)] wr fun e w'=>e = .returned (.bool (!inN n e0))∧Below wr.heap.size wr w'):=fun wr hb e0=>
  astray_any B n cc ca e0 wr ((hb.cell (p:=⟨B,0,none⟩) hB).trans hc) (Nat.lt_of_lt_of_le hB hb.size) hn
 have HR:Hid (RowW w b m ls):=hr;have HL:Hid (ls.length=m):=hr.1;clear hc hB hr;unfold fv;go_enter Tryz.func69,Tryz.ntmps69;go_wp2_with fail;go_loopw [8] (fun i wr=>∃ k:Nat,k≤m∧i=zI (k:Int)∧allN n (ls.take k)=true∧Below w.heap.size w wr) (fun i _=>m - (intOf i).toNat)
 case atStart=>exact ⟨0,Nat.zero_le _,rfl,rfl,Below.refl _ _⟩
 case round=>
  obtain ⟨k,hk,rfl,hal,hb⟩:=hrel;have HA:Hid (allN n (ls.take k)=true):=hal;have HB:Hid (Below w.heap.size w wr):=hb;clear hal hb;by_cases hlt:k<m
  ·obtain ⟨b2,o2,rfl,l2,hc2⟩:=HR.o.at (by omega);have f1:wr.cell? ⟨b2,o2+k*2,none⟩=some (zI (ls.getD k wr0).p):=(HB.o.cell (p:=⟨b2,o2+k*2,none⟩) l2).trans (hc2 k hlt).1;have f2:wr.cell? ⟨b2,o2+k*2+1,none⟩=some (.int .u32 (ls.getD k wr0).d):=(HB.o.cell (p:=⟨b2,o2+k*2+1,none⟩) l2).trans (hc2 k hlt).2;have hcall:=HC.o wr HB.o (ls.getD k wr0);have HST:Hid (allN n (ls.take (k+1))=(allN n (ls.take k) && inN n (ls.getD k wr0))):=allN_step n ls k (by have:=HL.o;omega);have HFL:Hid (inN n (ls.getD k wr0)=false→allN n ls=false):=fun h=>allN_of_false (by have:=HL.o;omega) h;clear hc2 l2;cases hi:inN n (ls.getD k wr0) with
   | true=>
    rw [hi] at hcall HST;have HSA:Hid (allN n (ls.take (k+1))=true):=by show _=_;rw [HST.o,HA.o];rfl
    have HCL:Hid (Calls Tryz.prog 39 #[.agg #[zI (ls.getD k wr0).p,.int .u32 (ls.getD k wr0).d],.pointer (some ⟨B,0,none⟩)] wr fun e w'=>e = .returned (.bool false)∧Below wr.heap.size wr w'):=hcall;clear hcall HST HFL hi;generalize (ls.getD k wr0).p=p at *;generalize (ls.getD k wr0).d=d at *;go_wp2_with fail;refine HCL.o.mono ?_;rintro e w' ⟨rfl,hb'⟩;have HB':Hid (Below w.heap.size w w'):=bel_step HB.o hb';clear hb' f1 f2;go_wp2_with fail;go_roundw
    case rel=>exact ⟨k+1,by omega,by go_num,HSA.o,HB'.o⟩
    case measure=>simp [intOf];omega
   | false=>
    rw [hi] at hcall;have HFA:Hid (allN n ls=false):=HFL.o hi;have HCL:Hid (Calls Tryz.prog 39 #[.agg #[zI (ls.getD k wr0).p,.int .u32 (ls.getD k wr0).d],.pointer (some ⟨B,0,none⟩)] wr fun e w'=>e = .returned (.bool true)∧Below wr.heap.size wr w'):=hcall;clear hcall HST HFL hi;generalize (ls.getD k wr0).p=p at *;generalize (ls.getD k wr0).d=d at *;go_wp2_with fail;refine HCL.o.mono ?_;rintro e w' ⟨rfl,hb'⟩;have HB':Hid (Below w.heap.size w w'):=bel_step HB.o hb';clear hb' f1 f2;go_wp2_with fail;go_ret;exact ⟨(k:Int),rfl,.inr ⟨HFA.o,by omega⟩,HB'.o⟩
  ·obtain rfl:k=m:=by omega
   have HFA:Hid (allN n ls=true):=by have:=HA.o;rw [List.take_of_length_le (by have:=HL.o;omega)] at this;exact this
   go_wp2_with fail;go_ret;exact ⟨-1,rfl,.inl ⟨HFA.o,rfl⟩,HB.o⟩
theorem contains_any (B n cc m c2:Nat) (ca b:Option Addr) (ls:List Wr) (w:World) (hc:w.cell? ⟨B,0,none⟩=some (.slice ca n cc)) (hn:n≤2048) (hr:RowW w b m ls) (hm:m≤4096) :
  Calls Tryz.prog 40 #[.slice b m c2,fv B] w fun e w'=>e = .returned (.bool (!allN n ls))∧Below w.heap.size w w':=by
 have HI:Hid (Calls Tryz.prog 69 #[.slice b m c2,fv B] w fun e w'=>IxPost w n ls e w'):=index_any B n cc m c2 ca b ls w hc hn hr hm;clear hc hr;generalize fv B=V at *;go_enter Tryz.func40,Tryz.ntmps40;go_wp2_with fail;refine HI.o.mono ?_;rintro e w' ⟨r,rfl,hr,hb'⟩;have HB':Hid (Below w.heap.size w w'):=hb';clear hb';rcases hr with ⟨ha,rfl⟩ | ⟨ha,hr⟩
 ·have HA:Hid ((!allN n ls)=false):=by show _=_;rw [ha];rfl
  clear ha;go_wp2_with fail;go_ret;exact ⟨by rw [HA.o];rfl,HB'.o⟩
 ·have HA:Hid ((!allN n ls)=true):=by show _=_;rw [ha];rfl
  clear ha;have hd:decide ((0:Int)≤r)=true:=by simpa using hr
  go_wp2_with fail;go_ret;exact ⟨by rw [HA.o];rfl,HB'.o⟩
end cell
namespace words
open Go.RowKit
theorem nan_any (x:Int) (w:World):Calls Tryz.prog 93 #[.int .u32 x] w fun e w'=>e = .returned (.bool false)∧w'=w:=by
 have h:(x != x)=false:=by simp
 go_enter Tryz.func93,Tryz.ntmps93;go_wp2;go_ret;exact ⟨rfl,rfl⟩
theorem compare_any (p q:Int) (w:World):Calls Tryz.prog 55 #[.int .u32 p,.int .u32 q] w fun e w'=>e = .returned (zI (cmp3 p q))∧w'=w:=by
 unfold cmp3;by_cases h1:p<q
 ·rw [if_pos h1];go_enter Tryz.func55,Tryz.ntmps55;go_wp2_with fail;refine (nan_any _ _).mono ?_;rintro e w ⟨rfl,rfl⟩;go_wp2_with fail;refine (nan_any _ _).mono ?_;rintro e w ⟨rfl,rfl⟩;go_wp2_with fail;go_ret;exact ⟨rfl,rfl⟩
 ·rw [if_neg h1];by_cases h2:q<p
  ·rw [if_pos h2];go_enter Tryz.func55,Tryz.ntmps55;go_wp2_with fail;refine (nan_any _ _).mono ?_;rintro e w ⟨rfl,rfl⟩;go_wp2_with fail;refine (nan_any _ _).mono ?_;rintro e w ⟨rfl,rfl⟩;go_wp2_with fail;go_ret;exact ⟨rfl,rfl⟩
  ·rw [if_neg h2];go_enter Tryz.func55,Tryz.ntmps55;go_wp2_with fail;refine (nan_any _ _).mono ?_;rintro e w ⟨rfl,rfl⟩;go_wp2_with fail;refine (nan_any _ _).mono ?_;rintro e w ⟨rfl,rfl⟩;go_wp2_with fail;go_ret;exact ⟨rfl,rfl⟩
theorem cmp3_self (x:Int):cmp3 x x=0:=by unfold cmp3;rw [if_neg (by omega),if_neg (by omega)]
theorem cmp_2 {x y:W3} (hx:x.ok) (hy:y.ok) (h:x.c≠y.c):cmp3 x.val y.val=cmp3 x.c y.c:=by
 obtain ⟨x1,x2,x3⟩:=hx;obtain ⟨y1,y2,y3⟩:=hy;unfold cmp3 W3.val
 repeat' split
 all_goals omega
theorem cmp_1 {x y:W3} (hx:x.ok) (hy:y.ok) (h2:x.c=y.c) (h:x.b≠y.b):cmp3 x.val y.val=cmp3 x.b y.b:=by
 obtain ⟨x1,x2,x3⟩:=hx;obtain ⟨y1,y2,y3⟩:=hy;unfold cmp3 W3.val
 repeat' split
 all_goals omega
theorem cmp_0 {x y:W3} (h2:x.c=y.c) (h1:x.b=y.b):cmp3 x.val y.val=cmp3 x.a y.a:=by
 unfold cmp3 W3.val
 repeat' split
 all_goals omega
theorem bel2d (w:World) (o1 o2:Obj) (n:Nat):Below w.heap.size w (((w.alloc o1).alloc o2).drewN n):=below_drewN (bel2 w o1 o2) n
theorem cmp_any (x y:W3) (w:World) (hx:x.ok) (hy:y.ok) :
  Calls Tryz.prog 24 #[wv x,wv y] w fun e w'=>e = .returned (zI (cmp3 x.val y.val))∧Below w.heap.size w w':=by
 by_cases he:x=y
 ·subst he;rw [cmp3_self];have q:=eq3_same x;obtain ⟨x0,x1,x2⟩:=x;clear hx hy;go_enter Tryz.func24,Tryz.ntmps24;go_wp2_with fail;go_ret;exact ⟨rfl,bel2 _ _ _⟩
 ·have q:=eq3_other he;have k2:=cmp_2 hx hy;have k1:=cmp_1 hx hy;have k0:=cmp_0 (x:=x) (y:=y);have hne:=agg_ne he;obtain ⟨x0,x1,x2⟩:=x;obtain ⟨y0,y1,y2⟩:=y;simp only at q k2 k1 k0 hne;generalize W3.val ⟨x0,x1,x2⟩=X at *;generalize W3.val ⟨y0,y1,y2⟩=Y at *;clear hx hy he;by_cases h2:x2=y2
  ·subst h2;have d2:(x2 == x2)=true:=by simp
   by_cases h1:x1=y1
   ·subst h1;have d1:(x1 == x1)=true:=by simp
    have h0:x0≠y0:=fun e=>hne ⟨e,rfl,rfl⟩;have d0:(x0 == y0)=false:=by simpa using h0
    rw [k0 rfl rfl];clear k0 k1 k2 hne h0;go_enter Tryz.func24,Tryz.ntmps24;go_wp2_with fail;refine wp_loop_rounds 3 ?_;rw [rounds_succ];go_wp2_with fail;go_quiet (fail);go_wp2_with fail;rw [rounds_succ];go_wp2_with fail;go_quiet (fail);go_wp2_with fail;rw [rounds_succ];go_wp2_with fail;go_quiet (fail);go_wp2_with fail;go_quiet (first | (go_at_call 55;exact (compare_any _ _ _).mono fun _ _ h=>⟨h.1,_,h.2⟩));go_wp2_with fail;go_ret;exact ⟨rfl,by first | exact below_drewN (bel2d _ _ _ _) _ | exact below_drewN (below_drewN (bel2d _ _ _ _) _) _⟩
   ·have d1:(x1 == y1)=false:=by simpa using h1
    rw [k1 rfl h1];clear k0 k1 k2 hne h1;go_enter Tryz.func24,Tryz.ntmps24;go_wp2_with fail;refine wp_loop_rounds 3 ?_;rw [rounds_succ];go_wp2_with fail;go_quiet (fail);go_wp2_with fail;rw [rounds_succ];go_wp2_with fail;go_quiet (fail);go_wp2_with fail;go_quiet (first | (go_at_call 55;exact (compare_any _ _ _).mono fun _ _ h=>⟨h.1,_,h.2⟩));go_wp2_with fail;go_ret;exact ⟨rfl,by first | exact below_drewN (bel2d _ _ _ _) _ | exact below_drewN (below_drewN (bel2d _ _ _ _) _) _⟩
  ·have d2:(x2 == y2)=false:=by simpa using h2
   rw [k2 h2];clear k0 k1 k2 hne h2;go_enter Tryz.func24,Tryz.ntmps24;go_wp2_with fail;refine wp_loop_rounds 3 ?_;rw [rounds_succ];go_wp2_with fail;go_quiet (fail);go_wp2_with fail;go_quiet (first | (go_at_call 55;exact (compare_any _ _ _).mono fun _ _ h=>⟨h.1,_,h.2⟩));go_wp2_with fail;go_ret;exact ⟨rfl,by first | exact below_drewN (bel2d _ _ _ _) _ | exact below_drewN (below_drewN (bel2d _ _ _ _) _) _⟩
end words
namespace disk
open Go.RowKit cell
set_option maxRecDepth 100000
theorem lr_cells {T : TypeId} {w : World} {base : Nat} {v : Value} {l : List Sli} (h : Lr T w base v l) : v.cells = #[v] := by
 obtain ⟨a, cap, rfl⟩ := h.len
 rfl
theorem lr_one {T : TypeId} {w : World} {base : Nat} {v : Value} {l : List Sli} (h : Lr T w base v l) : v.oneCell' = true := by
 obtain ⟨a, cap, rfl⟩ := h.len
 rfl
set_option maxHeartbeats 4000000 in
theorem put_record (w : World) (L : Nat) (V : Value) (sl : List Sli) (zs : List (List Int)) (R : List Int) (b off m : Nat) (W : World) (h : Box w L V sl zs W) (hr : RowU W (some ⟨b, off, none⟩) m R) (h1 : 1 ≤ m) (h2 : m ≤ 64) (hs : sl.length ≤ 1000000) :
  Calls Tryz.prog 109 #[.slice (some ⟨b, off, none⟩) m m, .pointer (some ⟨L, 0, none⟩)] W fun e w' => e = .returned (.tuple #[]) ∧ ∃ V' sl', Box w L V' sl' (zs ++ [R]) w' := by
 have HC : Hid (Calls Tryz.prog 110 #[.slice (some ⟨b, off, none⟩) m m] W.drew fun e w' => GaveU W.drew R e w') := clone_any _ m m R _ hr (by omega)
 have HBU0 : Hid (Box w L V sl zs W.drew) := h.next (Below.refl _ _).drew
 have HB0 : Hid (Box w L V sl zs W.drew) := HBU0.out
 have HRL : Hid (R.length = m) := hr.1
 have HM1 : Hid (0 < m) := h1
 have HM6 : Hid (m ≤ 100000) := Nat.le_trans h2 (by decide)
 have HS6 : Hid (sl.length ≤ 1000000) := hs
 clear hr h h1 h2 hs
 go_enter Tryz.func109, Tryz.ntmps109
 refine wp_region_held_drew (S := fun v => True) (by kernel_rfl) trivial (fun hHeld => ?_)
 generalize W.drew = U0 at *
 refine zqs 1 4 (.slice (some ⟨b, off, none⟩) m m) rfl rfl (by kernel_rfl) (fun _ _ _ h => h) rfl (fun v hv => by clear hv; go_simp) hHeld ?_
 simp only [Act.put, zqa, zqb, zqc]
 refine wpAnyH_ready (rs := [0, 2]) (by kernel_rfl) (by simp) (AllReadyH.cons rfl (fun K hK => ?_) (AllReadyH.cons rfl (fun K hK => ?_) AllReadyH.nil))
 ·rw [if_pos (by rfl)]
  have cU0 : U0.cell? ⟨L, 0, none⟩ = some V := HBU0.out.blk.cell 0
  refine wp_runOp (v := V) (w' := U0) 3 rfl (by clear hK; go_simp) ?_
  refine hK.out _ _ trivial (fun hHeld => ?_)
  clear hK cU0
  simp only [Act.put, zqa, zqb, zqc]
  refine zqo 2 (by kernel_rfl) rfl (fun K hK => ?_)
  rw [if_pos (by rfl)]
  refine wp_callOp 5 rfl (by clear hK; go_simp) (HC.out) ?_
  rintro e U1 ⟨v5, rfl, hws, hb⟩
  obtain ⟨a5, cap5, rfl, hrow, hnl, hcp⟩ := Ws.row hws
  rw [HRL.out] at hrow hcp ⊢
  obtain ⟨g, o5, rfl, hg5, hc5⟩ := hrow.at HM1.out
  have HCP : Hid (m ≤ cap5) := hcp
  have HG : Hid (U0.heap.size ≤ g) := (World.ownsRow.lt hws g rfl).1
  have HRU1 : Hid (RowU U1 (some ⟨g, o5, none⟩) m R ∧ g < U1.heap.size) := ⟨hrow, hg5⟩
  have HBU1 : Hid (Box w L V sl zs U1) := HBU0.out.next hb
  refine ⟨_, rfl, hK.out _ _ trivial (fun hHeld => ?_)⟩
  clear hK HC hws hb hnl hcp hc5 hg5 hrow HBU0
  simp only [Act.put, zqa, zqb, zqc]
  have HNE : Hid (some g ≠ V.ownBlock) := fun e => by have := (World.ownsRow.lt HB0.out.row g e.symm).2; have := HG.out; omega
  have HGL : Hid (L + 1 ≤ g) := by have := HB0.out.blk.lt; have := HG.out; show _ ≤ _; omega
  refine zqo 3 (by kernel_rfl) rfl (fun K hK => ?_)
  rw [if_pos (by rfl)]
  have hb : Below U1.heap.size U1 (U1.alloc (.cells #[.slice (some ⟨g, o5, none⟩) m cap5] 31)) := (Below.refl _ _).alloc (Nat.le_refl _) _
  have HBU2 : Hid (Box w L V sl zs (U1.alloc (.cells #[.slice (some ⟨g, o5, none⟩) m cap5] 31))) := HBU1.out.next hb
  have HRU2 : Hid (RowU (U1.alloc (.cells #[.slice (some ⟨g, o5, none⟩) m cap5] 31)) (some ⟨g, o5, none⟩) m R ∧ g < (U1.alloc (.cells #[.slice (some ⟨g, o5, none⟩) m cap5] 31)).heap.size) := ⟨HRU1.out.1.below hb, Nat.lt_of_lt_of_le HRU1.out.2 hb.size⟩
  have HX : Hid ((U1.alloc (.cells #[.slice (some ⟨g, o5, none⟩) m cap5] 31)).cell? ⟨U1.heap.size, 0, none⟩ = some (.slice (some ⟨g, o5, none⟩) m cap5)) := (Blk.new _ _ _).cell 0
  clear hb
  refine wp_runOp (v := .slice (some ⟨U1.heap.size, 0, none⟩) 1 1) (w' := (U1.alloc (.cells #[.slice (some ⟨g, o5, none⟩) m cap5] 31))) 6 rfl (by clear hK; go_simp) ?_
  refine hK.out _ _ trivial (fun hHeld => ?_)
  clear hK HBU1 HRU1
  simp only [Act.put, zqa, zqb, zqc]
  generalize U1.heap.size = G at *
  generalize (U1.alloc (.cells #[.slice (some ⟨g, o5, none⟩) m cap5] 31)) = U2 at *
  refine zqo 4 (by kernel_rfl) rfl (fun K hK => ?_)
  refine step_sli sliT rfl _ _ rfl (L + 1) G V sl ⟨some ⟨g, o5, none⟩, m, cap5⟩ rfl rfl HBU2.out.row HX.out HS6.out (HBU2.out.blk.lt) ?_
  intro v7 W3 h3 hg3 ho3
  refine hK.out _ _ trivial (fun hHeld => ?_)
  clear hK
  simp only [Act.put, zqa, zqb, zqc]
  refine zqo 5 (by kernel_rfl) rfl (fun K hK => ?_)
  rw [if_pos (by rfl)]
  refine wp_letOne 173 _ _ rfl L rfl v7 rfl (lr_cells h3) (by kernel_rfl) (lr_one h3) V 173 (HBU2.out.kept hg3) rfl ?_
  intro W4 hU
  have HF : Hid (Box w L v7 (sl ++ [⟨some ⟨g, o5, none⟩, m, cap5⟩]) (zs ++ [R]) W4) := box_step HBU2.out rfl HRU2.out.2 HNE.out HGL.out HRU2.out.1 ⟨HM6.out, HCP.out, fun h => by cases h⟩ h3 hg3 ho3 hU
  refine hK.out _ _ trivial (fun hHeld => ?_)
  clear hK hU h3 hg3 ho3
  refine wpAnyH_done (by kernel_rfl) ?_ _
  clear hHeld
  go_wp2_with fail
  go_end0
  exact ⟨rfl, _, _, HF.out⟩
 ·rw [if_pos (by rfl)]
  refine wp_callOp 5 rfl (by clear hK; go_simp) (HC.out) ?_
  rintro e U1 ⟨v5, rfl, hws, hb⟩
  obtain ⟨a5, cap5, rfl, hrow, hnl, hcp⟩ := Ws.row hws
  rw [HRL.out] at hrow hcp ⊢
  obtain ⟨g, o5, rfl, hg5, hc5⟩ := hrow.at HM1.out
  have HCP : Hid (m ≤ cap5) := hcp
  have HG : Hid (U0.heap.size ≤ g) := (World.ownsRow.lt hws g rfl).1
  have HRU1 : Hid (RowU U1 (some ⟨g, o5, none⟩) m R ∧ g < U1.heap.size) := ⟨hrow, hg5⟩
  have HBU1 : Hid (Box w L V sl zs U1) := HBU0.out.next hb
  refine ⟨_, rfl, hK.out _ _ trivial (fun hHeld => ?_)⟩
  clear hK HC hws hb hnl hcp hc5 hg5 hrow HBU0
  simp only [Act.put, zqa, zqb, zqc]
  have HNE : Hid (some g ≠ V.ownBlock) := fun e => by have := (World.ownsRow.lt HB0.out.row g e.symm).2; have := HG.out; omega
  have HGL : Hid (L + 1 ≤ g) := by have := HB0.out.blk.lt; have := HG.out; show _ ≤ _; omega
  refine wpAnyH_ready (rs := [0, 3]) (by kernel_rfl) (by simp) (AllReadyH.cons rfl (fun K hK => ?_) (AllReadyH.cons rfl (fun K hK => ?_) AllReadyH.nil))
  ·rw [if_pos (by rfl)]
   have cU1 : U1.cell? ⟨L, 0, none⟩ = some V := HBU1.out.blk.cell 0
   refine wp_runOp (v := V) (w' := U1) 3 rfl (by clear hK; go_simp) ?_
   refine hK.out _ _ trivial (fun hHeld => ?_)
   clear hK cU1
   simp only [Act.put, zqa, zqb, zqc]
   refine zqo 3 (by kernel_rfl) rfl (fun K hK => ?_)
   rw [if_pos (by rfl)]
   have hb : Below U1.heap.size U1 (U1.alloc (.cells #[.slice (some ⟨g, o5, none⟩) m cap5] 31)) := (Below.refl _ _).alloc (Nat.le_refl _) _
   have HBU2 : Hid (Box w L V sl zs (U1.alloc (.cells #[.slice (some ⟨g, o5, none⟩) m cap5] 31))) := HBU1.out.next hb
   have HRU2 : Hid (RowU (U1.alloc (.cells #[.slice (some ⟨g, o5, none⟩) m cap5] 31)) (some ⟨g, o5, none⟩) m R ∧ g < (U1.alloc (.cells #[.slice (some ⟨g, o5, none⟩) m cap5] 31)).heap.size) := ⟨HRU1.out.1.below hb, Nat.lt_of_lt_of_le HRU1.out.2 hb.size⟩
   have HX : Hid ((U1.alloc (.cells #[.slice (some ⟨g, o5, none⟩) m cap5] 31)).cell? ⟨U1.heap.size, 0, none⟩ = some (.slice (some ⟨g, o5, none⟩) m cap5)) := (Blk.new _ _ _).cell 0
   clear hb
   refine wp_runOp (v := .slice (some ⟨U1.heap.size, 0, none⟩) 1 1) (w' := (U1.alloc (.cells #[.slice (some ⟨g, o5, none⟩) m cap5] 31))) 6 rfl (by clear hK; go_simp) ?_
   refine hK.out _ _ trivial (fun hHeld => ?_)
   clear hK HBU1 HRU1
   simp only [Act.put, zqa, zqb, zqc]
   generalize U1.heap.size = G at *
   generalize (U1.alloc (.cells #[.slice (some ⟨g, o5, none⟩) m cap5] 31)) = U2 at *
   refine zqo 4 (by kernel_rfl) rfl (fun K hK => ?_)
   refine step_sli sliT rfl _ _ rfl (L + 1) G V sl ⟨some ⟨g, o5, none⟩, m, cap5⟩ rfl rfl HBU2.out.row HX.out HS6.out (HBU2.out.blk.lt) ?_
   intro v7 W3 h3 hg3 ho3
   refine hK.out _ _ trivial (fun hHeld => ?_)
   clear hK
   simp only [Act.put, zqa, zqb, zqc]
   refine zqo 5 (by kernel_rfl) rfl (fun K hK => ?_)
   rw [if_pos (by rfl)]
   refine wp_letOne 173 _ _ rfl L rfl v7 rfl (lr_cells h3) (by kernel_rfl) (lr_one h3) V 173 (HBU2.out.kept hg3) rfl ?_
   intro W4 hU
   have HF : Hid (Box w L v7 (sl ++ [⟨some ⟨g, o5, none⟩, m, cap5⟩]) (zs ++ [R]) W4) := box_step HBU2.out rfl HRU2.out.2 HNE.out HGL.out HRU2.out.1 ⟨HM6.out, HCP.out, fun h => by cases h⟩ h3 hg3 ho3 hU
   refine hK.out _ _ trivial (fun hHeld => ?_)
   clear hK hU h3 hg3 ho3
   refine wpAnyH_done (by kernel_rfl) ?_ _
   clear hHeld
   go_wp2_with fail
   go_end0
   exact ⟨rfl, _, _, HF.out⟩
  ·rw [if_pos (by rfl)]
   have hb : Below U1.heap.size U1 (U1.alloc (.cells #[.slice (some ⟨g, o5, none⟩) m cap5] 31)) := (Below.refl _ _).alloc (Nat.le_refl _) _
   have HBU2 : Hid (Box w L V sl zs (U1.alloc (.cells #[.slice (some ⟨g, o5, none⟩) m cap5] 31))) := HBU1.out.next hb
   have HRU2 : Hid (RowU (U1.alloc (.cells #[.slice (some ⟨g, o5, none⟩) m cap5] 31)) (some ⟨g, o5, none⟩) m R ∧ g < (U1.alloc (.cells #[.slice (some ⟨g, o5, none⟩) m cap5] 31)).heap.size) := ⟨HRU1.out.1.below hb, Nat.lt_of_lt_of_le HRU1.out.2 hb.size⟩
   have HX : Hid ((U1.alloc (.cells #[.slice (some ⟨g, o5, none⟩) m cap5] 31)).cell? ⟨U1.heap.size, 0, none⟩ = some (.slice (some ⟨g, o5, none⟩) m cap5)) := (Blk.new _ _ _).cell 0
   clear hb
   refine wp_runOp (v := .slice (some ⟨U1.heap.size, 0, none⟩) 1 1) (w' := (U1.alloc (.cells #[.slice (some ⟨g, o5, none⟩) m cap5] 31))) 6 rfl (by clear hK; go_simp) ?_
   refine hK.out _ _ trivial (fun hHeld => ?_)
   clear hK HBU1 HRU1
   simp only [Act.put, zqa, zqb, zqc]
   generalize U1.heap.size = G at *
   generalize (U1.alloc (.cells #[.slice (some ⟨g, o5, none⟩) m cap5] 31)) = U2 at *
   refine zqo 0 (by kernel_rfl) rfl (fun K hK => ?_)
   rw [if_pos (by rfl)]
   have cU2 : U2.cell? ⟨L, 0, none⟩ = some V := HBU2.out.blk.cell 0
   refine wp_runOp (v := V) (w' := U2) 3 rfl (by clear hK; go_simp) ?_
   refine hK.out _ _ trivial (fun hHeld => ?_)
   clear hK cU2
   simp only [Act.put, zqa, zqb, zqc]
   refine zqo 4 (by kernel_rfl) rfl (fun K hK => ?_)
   refine step_sli sliT rfl _ _ rfl (L + 1) G V sl ⟨some ⟨g, o5, none⟩, m, cap5⟩ rfl rfl HBU2.out.row HX.out HS6.out (HBU2.out.blk.lt) ?_
   intro v7 W3 h3 hg3 ho3
   refine hK.out _ _ trivial (fun hHeld => ?_)
   clear hK
   simp only [Act.put, zqa, zqb, zqc]
   refine zqo 5 (by kernel_rfl) rfl (fun K hK => ?_)
   rw [if_pos (by rfl)]
   refine wp_letOne 173 _ _ rfl L rfl v7 rfl (lr_cells h3) (by kernel_rfl) (lr_one h3) V 173 (HBU2.out.kept hg3) rfl ?_
   intro W4 hU
   have HF : Hid (Box w L v7 (sl ++ [⟨some ⟨g, o5, none⟩, m, cap5⟩]) (zs ++ [R]) W4) := box_step HBU2.out rfl HRU2.out.2 HNE.out HGL.out HRU2.out.1 ⟨HM6.out, HCP.out, fun h => by cases h⟩ h3 hg3 ho3 hU
   refine hK.out _ _ trivial (fun hHeld => ?_)
   clear hK hU h3 hg3 ho3
   refine wpAnyH_done (by kernel_rfl) ?_ _
   clear hHeld
   go_wp2_with fail
   go_end0
   exact ⟨rfl, _, _, HF.out⟩
def JR (w:World) (c:List Int) (k:Nat) (W:World):Prop:=∃ V sl,Box w w.heap.size V sl (itD c k).1 W
theorem kreplay:KReplay:=by
 intro w a n cap c h hnil hcap hby hw;have H0:JR w c 0 (w.alloc (.cells #[zS] 173)):=⟨zS,[],Blk.new _ _ _,Lr.zero _ _ _,Recs.nil _ _,(fun i hi=>by cases hi),(Below.refl _ _).alloc (Nat.le_refl _) _⟩
 have HE:Hid (Calls Tryz.prog 106 #[.slice a n cap,.func (.func 109) #[] #[.pointer (some ⟨w.heap.size,0,none⟩)]] (w.alloc (.cells #[zS] 173)) fun e w'=>EPost (JR w c) c e w'):=by
  refine each_any 109 #[.pointer (some ⟨w.heap.size,0,none⟩)] (JR w c) a n cap c _ (fun k W hj=>?_) H0 hcap hw (fun _ _=>by kernel_rfl) ?_
  ·obtain ⟨V,sl,hb⟩:=hj;exact h.below hb.bel
  ·intro k p m b o W hj hp hit hr h1 h2 h3;obtain ⟨V,sl,hb⟩:=hj;have hs:sl.length≤1000000:=by have:=hb.recs.1;have:=it_count c k;omega
   refine (put_record w w.heap.size V sl _ (recAt c p) b o m W hb hr h1 h2 hs).mono ?_;rintro e w' ⟨rfl,V',sl',hb'⟩;refine ⟨rfl,V',sl',?_⟩;rw [hit];exact hb'
 clear H0 h hnil hcap hby hw;go_enter Tryz.func72,Tryz.ntmps72;go_wp2_with fail;refine HE.o.mono ?_;rintro e w1 ⟨x,f,k,rfl,⟨V,sl,hb⟩,hi⟩;have HB:Hid (Box w w.heap.size V sl (itD c k).1 w1):=hb;have HI:Hid ((¬ May c∧x=0∧f=1)∨(May c∧lenAt c (repD c).2<0∧x=0∧f=3)∨(May c∧lenAt c (repD c).2=0∧repD c=itD c k∧x=((repD c).2:Int)∧f=0)):=hi;clear hb hi HE;by_cases hf:f=0
 ·have HR:Hid (RepIs c (itD c k).1 x 0):=by
   rcases HI.o with ⟨_,_,e⟩ | ⟨_,_,_,e⟩ | ⟨q1,q2,q3,q4,_⟩
   ·rw [hf] at e;exact absurd e (by decide)
   ·rw [hf] at e;exact absurd e (by decide)
   ·exact .inr (.inr ⟨q1,q2,by rw [q3],q4,rfl⟩)
  have q0:w1.cell? ⟨w.heap.size,0,none⟩=some V:=HB.o.blk.cell 0;obtain ⟨va,vc,hV,hrd⟩:=HB.o.reads;have HRD:Hid (ReadsF w1 w.heap.size va (itD c k).1.length (itD c k).1):=hrd;have HBL:Hid (Below w.heap.size w w1):=HB.o.bel;subst hf;subst hV;clear hrd HB HI;generalize (itD c k).1=zs at *;have HFW:Hid (zs.length≤100000):=Nat.le_trans (rep_few HR.o).1 (by decide);generalize hzl:zs.length=zl at *;clear hzl;go_wp2_with fail;go_ret3;exact ⟨va,_,vc,zs,x,0,rfl,HRD.o,HFW.o,HR.o,HBL.o⟩
 ·have HR:Hid (RepIs c [] 0 f):=by
   rcases HI.o with ⟨q1,_,e⟩ | ⟨q1,q2,_,e⟩ | ⟨_,_,_,_,e⟩
   ·exact .inl ⟨q1,rfl,rfl,e⟩
   ·exact .inr (.inl ⟨q1,q2,rfl,rfl,e⟩)
   ·exact absurd e hf
  have HBL:Hid (Below w.heap.size w w1):=HB.o.bel;have hne:(f != 0)=true:=by simpa using hf
  clear HB HI hf;go_wp2_with fail;go_ret3;exact ⟨none,0,0,[],0,f,rfl,⟨rfl,.inl rfl⟩,Nat.zero_le _,HR.o,HBL.o⟩
end disk
namespace book
open Go.RowKit cell
theorem kdec:KDec:=by
 intro w a n cap l hr hnil hle hbytes hm;have hmf:∀ (fn:Fn) (first cap:Array Value) (w:World),(Instr.makeFunc fn first cap).run Tryz.prog w = .ok (.func fn first cap) w:=fun _ _ _ _=>rfl;have HLN:Hid (l.length=n):=hr.1;have HR1:Hid (Blk ((w.alloc (.cells #[zI 0,zI 0,zI 0,zI 0,zI 0,zI 0,zI 0,zI 0,zI 0,zI 0,zI 0,zI 0,zI 0] 125)).alloc (.cells #[zI 0] 42)) w.heap.size #[zI 0,zI 0,zI 0,zI 0,zI 0,zI 0,zI 0,zI 0,zI 0,zI 0,zI 0,zI 0,zI 0] 125):=(Blk.new _ _ _).alloc _;have HE1:Hid (Blk ((w.alloc (.cells #[zI 0,zI 0,zI 0,zI 0,zI 0,zI 0,zI 0,zI 0,zI 0,zI 0,zI 0,zI 0,zI 0] 125)).alloc (.cells #[zI 0] 42)) (w.heap.size+1) #[zI 0] 42):=Blk.new1 _ _ _ _;have HB1:Hid (Below w.heap.size w ((w.alloc (.cells #[zI 0,zI 0,zI 0,zI 0,zI 0,zI 0,zI 0,zI 0,zI 0,zI 0,zI 0,zI 0,zI 0] 125)).alloc (.cells #[zI 0] 42))):=((Below.refl _ _).alloc (Nat.le_refl _) _).alloc (by simp) _;by_cases hn:n=13
 case neg=>
  have nn:((n:Int) != 13)=true:=by simp;omega
  have HNL:Hid (l.length≠13):=by show _≠_;rw [HLN.o];exact hn
  clear hn hr hm;go_enter_defers Tryz.func73,Tryz.ntmps73;go_upto_region 2 with fail
  generalize ((w.alloc (.cells #[zI 0,zI 0,zI 0,zI 0,zI 0,zI 0,zI 0,zI 0,zI 0,zI 0,zI 0,zI 0,zI 0] 125)).alloc (.cells #[zI 0] 42))=W1 at *;go_wp2_with (first | (refine zql rfl rfl rfl rfl zqu125 (by simp [Value.oneCell']) HR1 rfl ?_) | fail)
  intro W2 hU;have HR2:Hid (Blk W2 w.heap.size #[zI 0,zI 0,zI 0,zI 0,zI 0,zI 0,zI 0,zI 0,zI 0,zI 0,zI 0,zI 0,zI 0] 125):=hU.blk;have HE2:=shK hU HE1 (by omega);have HB2:Hid (Below w.heap.size w W2):=hU.bel _ _ (Nat.le_refl _) HB1.o;clear hU HR1 HE1 HB1;go_wp2_with (first | (refine wp_let1 rfl 42 _ _ rfl (w.heap.size+1) 0 rfl .i64 1 rfl (by kernel_rfl) #[zI 0] 42 HE2.o (by decide) ?_) | fail)
  intro W3 hU;have HR3:=shK hU HR2 (by omega);have r13:W3.cell? ⟨w.heap.size+1,0,none⟩=some (zI 1):=hU.blk.cell 0;have HB3:=shV hU HB2 (by omega);clear hU;go_wp2_with fail;obtain ⟨r0,r1,r2,r3,r4,r5,r6,r7,r8,r9,r10,r11,r12⟩:=scl13 HR3;show Leaves _ _ _ _ [] .returning W3;refine ⟨.tuple #[.agg #[zI 0,zI 0,zI 0,zI 0,zI 0,zI 0,zI 0,zI 0,zI 0,zI 0,zI 0,zI 0,zI 0],zI 1],by simp [results,Tryz.results73,r0,r1,r2,r3,r4,r5,r6,r7,r8,r9,r10,r11,r12,r13,go_sem],?_⟩;exact ⟨ev0,1,rfl,.inl ⟨HNL.o,rfl,rfl⟩,HB3.o⟩
 subst hn;have HEV:Hid (∀ W,Below w.heap.size w W→Calls Tryz.prog 112 #[.slice a 13 cap] W fun e w'=>e = .returned (evOf l).v∧Below W.heap.size W w'):=fun W hB=>bevent a cap l W (hr.below hB) hm;clear hr hm;obtain ⟨v,hv⟩:∃ v,v=evOf l:=⟨_,rfl⟩
 have HVE:Hid (v=evOf l):=hv;rw [← hv] at HEV;clear hv;have HMU:Hid (∀ W,Calls Tryz.prog 104 #[.agg #[zI v.kd,zI v.me,zI v.mo,zI v.id,zI v.te,zI v.de,zI v.fe,zI v.pr,zI v.ch,zI v.un,zI v.tg,zI v.ow,zI v.bp]] W fun e w'=>MustPost W v e w'):=fun W=>bmust v W;have nn:(((13:Nat):Int) != 13)=false:=by decide
 go_enter_defers Tryz.func73,Tryz.ntmps73;go_upto_region 4 with fail
 generalize ((w.alloc (.cells #[zI 0,zI 0,zI 0,zI 0,zI 0,zI 0,zI 0,zI 0,zI 0,zI 0,zI 0,zI 0,zI 0] 125)).alloc (.cells #[zI 0] 42))=W1 at *;have HE:=HEV.o W1 HB1.o;have HE':Hid (Calls Tryz.prog 112 #[.slice a 13 cap] W1 fun e w'=>e = .returned v.v∧Below W1.heap.size W1 w'):=HE;clear HE HEV;go_wp2_with fail;refine HE'.o.mono ?_;rintro e W2 ⟨rfl,hb⟩;have HR2:Hid (Blk (W2.alloc (.cells #[zI v.kd,zI v.me,zI v.mo,zI v.id,zI v.te,zI v.de,zI v.fe,zI v.pr,zI v.ch,zI v.un,zI v.tg,zI v.ow,zI v.bp] 125)) w.heap.size #[zI 0,zI 0,zI 0,zI 0,zI 0,zI 0,zI 0,zI 0,zI 0,zI 0,zI 0,zI 0,zI 0] 125):=(HR1.o.next hb).alloc _;have HE2:Hid (Blk (W2.alloc (.cells #[zI v.kd,zI v.me,zI v.mo,zI v.id,zI v.te,zI v.de,zI v.fe,zI v.pr,zI v.ch,zI v.un,zI v.tg,zI v.ow,zI v.bp] 125)) (w.heap.size+1) #[zI 0] 42):=(HE1.o.next hb).alloc _;have HT2:Hid (Blk (W2.alloc (.cells #[zI v.kd,zI v.me,zI v.mo,zI v.id,zI v.te,zI v.de,zI v.fe,zI v.pr,zI v.ch,zI v.un,zI v.tg,zI v.ow,zI v.bp] 125)) W2.heap.size #[zI v.kd,zI v.me,zI v.mo,zI v.id,zI v.te,zI v.de,zI v.fe,zI v.pr,zI v.ch,zI v.un,zI v.tg,zI v.ow,zI v.bp] 125):=Blk.new _ _ _;have HB2:Hid (Below w.heap.size w (W2.alloc (.cells #[zI v.kd,zI v.me,zI v.mo,zI v.id,zI v.te,zI v.de,zI v.fe,zI v.pr,zI v.ch,zI v.un,zI v.tg,zI v.ow,zI v.bp] 125))):=(bel_step HB1.o hb).alloc (bel_step HB1.o hb).size _;have HG2:Hid (w.heap.size+1<W2.heap.size):=(HE1.o.next hb).lt;clear hb HR1 HE1 HB1 HE';unfold Ev.v;go_upto_region 5 with fail
 generalize (W2.alloc (.cells #[zI v.kd,zI v.me,zI v.mo,zI v.id,zI v.te,zI v.de,zI v.fe,zI v.pr,zI v.ch,zI v.un,zI v.tg,zI v.ow,zI v.bp] 125))=W3 at *;generalize W2.heap.size=g at *;obtain ⟨c0,c1,c2,c3,c4,c5,c6,c7,c8,c9,c10,c11,c12⟩:=scl13 HT2;go_wp2_with fail;refine (HMU.o _).mono ?_;rintro e W4 ⟨hm,hb⟩;have HR4:=shN HR2 hb;have HE4:=shN HE2 hb;have HT4:=shN HT2 hb;have HB4:=shB HB2 hb;clear hb HR2 HE2 HT2 HB2 HMU c0 c1 c2 c3 c4 c5 c6 c7 c8 c9 c10 c11 c12;rcases hm with ⟨hm,rfl⟩ | ⟨hm,rfl⟩
 ·have HY:Hid (EMay v):=hm;clear hm;obtain ⟨c0,c1,c2,c3,c4,c5,c6,c7,c8,c9,c10,c11,c12⟩:=scl13 HT4;go_wp2_with (first | (refine zql rfl rfl rfl rfl zqu125 (by simp [Value.oneCell']) HR4 rfl ?_) | fail)
  intro W5 hU;have HR5:Hid (Blk W5 w.heap.size #[zI v.kd,zI v.me,zI v.mo,zI v.id,zI v.te,zI v.de,zI v.fe,zI v.pr,zI v.ch,zI v.un,zI v.tg,zI v.ow,zI v.bp] 125):=hU.blk;have HE5:=shK hU HE4 (by omega);have HB5:Hid (Below w.heap.size w W5):=hU.bel _ _ (Nat.le_refl _) HB4.o;clear hU HR4 HE4 HB4 HT4 c0 c1 c2 c3 c4 c5 c6 c7 c8 c9 c10 c11 c12;go_wp2_with (first | (refine wp_let1 rfl 42 _ _ rfl (w.heap.size+1) 0 rfl .i64 0 rfl (by kernel_rfl) #[zI 0] 42 HE5.o (by decide) ?_) | fail)
  intro W6 hU;have HR6:=shK hU HR5 (by omega);have HE6:Hid (Blk W6 (w.heap.size+1) #[zI 0] 42):=hU.blk;have HB6:=shV hU HB5 (by omega);clear hU HR5 HE5 HB5;go_wp2_with fail;refine leaves_cons (f:=111) (args:=#[.pointer (some ⟨w.heap.size+1,0,none⟩)]) (by simp) (by simp [go_sem]) ?_;refine (decode_idle (w.heap.size+1) 0 _ HE6.o).mono ?_;rintro e u' w5 ⟨rfl,hs,W,hb,hU⟩;have HR7:Blk w5 w.heap.size #[zI v.kd,zI v.me,zI v.mo,zI v.id,zI v.te,zI v.de,zI v.fe,zI v.pr,zI v.ch,zI v.un,zI v.tg,zI v.ow,zI v.bp] 125:=hU.keep (HR6.o.next hb) (by omega);have r13:w5.cell? ⟨w.heap.size+1,0,none⟩=some (zI 0):=hU.blk.cell 0;have HB7:Below w.heap.size w w5:=hU.bel _ _ (by omega) (bel_step HB6.o hb);have r0:w5.cell? ⟨w.heap.size,0,none⟩=some (zI v.kd):=HR7.cell 0;have r1:w5.cell? ⟨w.heap.size,1,none⟩=some (zI v.me):=HR7.cell 1;have r2:w5.cell? ⟨w.heap.size,2,none⟩=some (zI v.mo):=HR7.cell 2;have r3:w5.cell? ⟨w.heap.size,3,none⟩=some (zI v.id):=HR7.cell 3;have r4:w5.cell? ⟨w.heap.size,4,none⟩=some (zI v.te):=HR7.cell 4;have r5:w5.cell? ⟨w.heap.size,5,none⟩=some (zI v.de):=HR7.cell 5;have r6:w5.cell? ⟨w.heap.size,6,none⟩=some (zI v.fe):=HR7.cell 6;have r7:w5.cell? ⟨w.heap.size,7,none⟩=some (zI v.pr):=HR7.cell 7;have r8:w5.cell? ⟨w.heap.size,8,none⟩=some (zI v.ch):=HR7.cell 8;have r9:w5.cell? ⟨w.heap.size,9,none⟩=some (zI v.un):=HR7.cell 9;have r10:w5.cell? ⟨w.heap.size,10,none⟩=some (zI v.tg):=HR7.cell 10;have r11:w5.cell? ⟨w.heap.size,11,none⟩=some (zI v.ow):=HR7.cell 11;have r12:w5.cell? ⟨w.heap.size,12,none⟩=some (zI v.bp):=HR7.cell 12;show Leaves _ _ _ _ [] (settle u') w5;rw [hs];refine ⟨.tuple #[.agg #[zI v.kd,zI v.me,zI v.mo,zI v.id,zI v.te,zI v.de,zI v.fe,zI v.pr,zI v.ch,zI v.un,zI v.tg,zI v.ow,zI v.bp],zI 0],by simp [results,Tryz.results73,r0,r1,r2,r3,r4,r5,r6,r7,r8,r9,r10,r11,r12,r13,go_sem],?_⟩
  exact ⟨v,0,rfl,.inr (.inr ⟨HLN.o,by rw [← HVE.o];exact HY.o,HVE.o,rfl⟩),HB7⟩
 ·have HN:Hid (¬ EMay v):=hm;clear hm;refine leaves_cons (f:=111) (args:=#[.pointer (some ⟨w.heap.size+1,0,none⟩)]) (by simp) (by simp [go_sem]) ?_;refine (decode_caught (w.heap.size+1) 0 5 _ HE4.o).mono ?_;rintro e u' w5 ⟨rfl,hs,W,hb,hU⟩;have HR7:Blk w5 w.heap.size #[zI 0,zI 0,zI 0,zI 0,zI 0,zI 0,zI 0,zI 0,zI 0,zI 0,zI 0,zI 0,zI 0] 125:=hU.keep (HR4.o.next hb) (by omega);have r13:w5.cell? ⟨w.heap.size+1,0,none⟩=some (zI 5):=hU.blk.cell 0;have HB7:Below w.heap.size w w5:=hU.bel _ _ (by omega) (bel_step HB4.o hb);have r0:w5.cell? ⟨w.heap.size,0,none⟩=some (zI 0):=HR7.cell 0;have r1:w5.cell? ⟨w.heap.size,1,none⟩=some (zI 0):=HR7.cell 1;have r2:w5.cell? ⟨w.heap.size,2,none⟩=some (zI 0):=HR7.cell 2;have r3:w5.cell? ⟨w.heap.size,3,none⟩=some (zI 0):=HR7.cell 3;have r4:w5.cell? ⟨w.heap.size,4,none⟩=some (zI 0):=HR7.cell 4;have r5:w5.cell? ⟨w.heap.size,5,none⟩=some (zI 0):=HR7.cell 5;have r6:w5.cell? ⟨w.heap.size,6,none⟩=some (zI 0):=HR7.cell 6;have r7:w5.cell? ⟨w.heap.size,7,none⟩=some (zI 0):=HR7.cell 7;have r8:w5.cell? ⟨w.heap.size,8,none⟩=some (zI 0):=HR7.cell 8;have r9:w5.cell? ⟨w.heap.size,9,none⟩=some (zI 0):=HR7.cell 9;have r10:w5.cell? ⟨w.heap.size,10,none⟩=some (zI 0):=HR7.cell 10;have r11:w5.cell? ⟨w.heap.size,11,none⟩=some (zI 0):=HR7.cell 11;have r12:w5.cell? ⟨w.heap.size,12,none⟩=some (zI 0):=HR7.cell 12;show Leaves _ _ _ _ [] (settle u') w5;rw [hs];refine ⟨.tuple #[.agg #[zI 0,zI 0,zI 0,zI 0,zI 0,zI 0,zI 0,zI 0,zI 0,zI 0,zI 0,zI 0,zI 0],zI 5],by simp [results,Tryz.results73,r0,r1,r2,r3,r4,r5,r6,r7,r8,r9,r10,r11,r12,r13,go_sem],?_⟩;exact ⟨ev0,5,rfl,.inr (.inl ⟨HLN.o,by rw [← HVE.o];exact HN.o,rfl,rfl⟩),HB7⟩
end book
namespace vnd
open disk (RepIs AppIs)
open book (Ev ev0 EMay evL evOf EncIs DecIs Cm cm0 So so0 BookIs Sees ECame FirstAt NoneAt)
open acc (Ac Tm Bi TCame ACame)
open cell (Wr RowU)
open Go.RowKit
def NoTwo (w:World) (g:Nat):Prop:=∀ o x y,w.cell? ⟨g,o,none⟩=some (zI x)→w.cell? ⟨g,o+1,none⟩=some (zI y)→False
theorem shop_odd {w:World} {g:Nat} {T:TypeId} {a1 b1:Option Addr} {a2 a3 b2 b3:Nat} {z:Value} (hB:Blk w g #[.slice a1 a2 a3,.slice b1 b2 b3,z] T):NoTwo w g:=by
 intro o x y h1 h2
 match o,h1,h2 with
 | 0,h1,_=>rw [hB.cell 0] at h1;cases h1
 | 1,h1,_=>rw [hB.cell 1] at h1;cases h1
 | o+2,_,h2=>rw [hB.cell (o+2+1)] at h2;simp at h2
theorem rowC_far {w W:World} {g:Nat} {v':Array Value} {T':TypeId} {p:Option Addr} {n:Nat} {xs:List book.Cu} (h:book.RowC w p n xs) (hg:NoTwo w g) (hU:Upd w W g v' T'):book.RowC W p n xs:=by
 refine ⟨h.1,?_⟩;rcases h.2 with h0 | ⟨b,off,rfl,lb,hc⟩
 ·exact .inl h0
 ·rcases Nat.eq_zero_or_pos n with h0 | h0
  ·exact .inl h0
  ·have hne:b≠g:=fun e=>by
    subst e;have h1:=hc 0 0 h0 (by decide);have h2:=hc 0 1 h0 (by decide);exact hg (off+0*8+0) (xs.getD 0 book.cu0).me (xs.getD 0 book.cu0).rv (by rw [h1];rfl) (by rw [show off+0*8+0+1=off+0*8+1 by omega,h2];rfl)
   exact .inr ⟨b,off,rfl,by rw [hU.size];exact lb,fun i j hi hj=>by rw [hU.cell _ hne rfl];exact hc i j hi hj⟩
theorem rowS_far {w W:World} {g:Nat} {v':Array Value} {T':TypeId} {p:Option Addr} {n:Nat} {l:List So} (h:book.RowS w p n l) (hg:NoTwo w g) (hU:Upd w W g v' T'):book.RowS W p n l:=by
 refine ⟨h.1,?_⟩;rcases h.2 with h0 | ⟨b,off,rfl,lb,hc⟩
 ·exact .inl h0
 ·rcases Nat.eq_zero_or_pos n with h0 | h0
  ·exact .inl h0
  ·have hne:b≠g:=fun e=>by
    subst e;have h1:=hc 0 0 h0 (by decide);have h2:=hc 0 1 h0 (by decide);exact hg (off+0*5+0) (l.getD 0 so0).id (l.getD 0 so0).cl (by rw [h1];rfl) (by rw [show off+0*5+0+1=off+0*5+1 by omega,h2];rfl)
   exact .inr ⟨b,off,rfl,by rw [hU.size];exact lb,fun i j hi hj=>by rw [hU.cell _ hne rfl];exact hc i j hi hj⟩
theorem came_far {w W:World} {g:Nat} {v':Array Value} {T':TypeId} {p:Option Addr} {n cap:Nat} {l:List tar.Du} (h:tar.Came w p n cap l) (hg:NoTwo w g) (hU:Upd w W g v' T'):tar.Came W p n cap l:=
 acc.came_upd h hU fun hn x hx e=>by
  obtain ⟨b,off,hp,lb,hc⟩:=h.row.at hn;rw [hp] at hx;cases hx;have e2:b=g:=e;subst e2;exact hg _ _ _ (hc 0 hn).1 (hc 0 hn).2
theorem sees_far {w W:World} {g:Nat} {v':Array Value} {T':TypeId} {p:Option Addr} {n:Nat} {xs:List book.Cu} {bk:List Cm} (h:Sees w p n xs bk) (hg:NoTwo w g) (hU:Upd w W g v' T'):Sees W p n xs bk:=
 ⟨rowC_far h.row hg hU,h.len,h.num,fun i hi=>came_far (h.ds i hi) hg hU,fun i hi=>rowS_far (h.so i hi) hg hU⟩
theorem one_odd {w:World} {g:Nat} {T:TypeId} {z:Value} (hB:Blk w g #[z] T):NoTwo w g:=by
 intro o x y h1 h2;rw [hB.cell (o+1)] at h2;simp at h2
end vnd
end Go.Proofs.YtdpfnedfakgolaaGreatDoor
