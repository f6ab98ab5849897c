import Derived.Test.YtnpblpbohcegoaaGreatDoorVBTed19
set_option linter.unusedVariables false
set_option linter.unusedSimpArgs false
set_option maxHeartbeats 4000000
set_option maxRecDepth 100000
namespace Go.Proofs.YtnpblpbohcegoaaGreatDoor
namespace acc
open tar (Du du0 Came RowD Ld PairT)
open Go.RowKit
theorem rest_bd {a:Ac} {t:Tm} {te m:Int} (h:Ready a t m) (h0:1≤te) (h1:te≤100000000):(0≤paid a t te m∧paid a t te m≤te)∧(0≤fee t te∧fee t te≤100100000)∧rest a t te m=te - paid a t te m - fee t te:=by
 obtain ⟨a1,⟨b1,⟨c1,c2⟩,⟨d1,d2⟩,⟨e1,e2⟩,_⟩,r⟩:=h;have hs:=mays_sum (rolled_may a1 r).1;have h2:=rec_bd (te:=te) (db:=t.db) (by omega) h1 e1 e2;have h3:=rec_bd (te:=te) (db:=t.fb) (by omega) h1 d1 d2;refine ⟨⟨?_,?_⟩,⟨?_,?_⟩,rfl⟩
 ·show 0≤min (te*t.db / 10000) _;omega
 ·show min (te*t.db / 10000) _≤te;omega
 ·show 0≤t.ff+te*t.fb / 10000;omega
 ·show t.ff+te*t.fb / 10000≤_;omega
end acc
namespace vnd
open disk (RepIs AppIs May repD lenAt appW)
open book (Ev ev0 EMay evL evOf EncIs DecIs Cm cm0 So so0 BookIs FirstAt NoneAt Tells billOf soldOf StepIs HapIs)
open acc (Ac Tm Bi SellIs GrantIs RekeyIs OweIs)
open ora (Pr IssueIs)
open cell (Wr wrt)
open rcp (Rc rc0)
theorem sell_ev {a:Ac} {t:Tm} {te mo:Int} {b:Ac} {l:Bi} {me tg:Int} (h:SellIs a t te mo b l 0) (ha:a.me=me) (ht:0≤tg∧tg≤65535):EMay (tokE 2 me mo l tg)∧l.te=te:=by
 rcases h with ⟨h,rfl,rfl⟩ | ⟨_,_,h,_⟩ | ⟨_,_,_,h,_⟩ | ⟨hr,ht2,hn,_,u,hu,rfl,rfl⟩
 ·rcases h with ⟨_,h⟩ | ⟨_,h1,h2⟩ | ⟨_,_,_,h⟩
  ·cases h
  ·exact absurd (h2.ok.1 rfl) h1
  ·exact absurd rfl h.ne
 ·cases h
 ·cases h
 ·obtain ⟨⟨p1,p2⟩,⟨q1,q2⟩,r1⟩:=acc.rest_bd hr ht2.1.1 ht2.1.2;have hbo:=(acc.rolled_may hr.1 hr.2.2).2.2.2.2.2.1;have hu0:u≠0:=fun e=>ht2.2.2 (by rw [← e];exact hu);have hu1:1≤u:=by have:=hu.1.1;omega
  obtain ⟨c0,c1,c2,c3⟩:=acc.most_cost hr.2.1.1 hbo.1 hu hu1;refine ⟨⟨by rw [← ha];exact hr.1.2.1,.inr (.inr ⟨⟨by show (2:Int)≤2;omega,by show (2:Int)≤4;omega⟩,⟨hr.1.2.2.2.1.1,hn⟩,ht,⟨rfl,rfl⟩,.inr ⟨by show (2:Int)≠4;omega,hr.2.2.1,⟨hu1,c3⟩,.inr ⟨by show (2:Int)≠3;omega,ht2.1,?_⟩⟩⟩)⟩,rfl⟩;show (0≤acc.paid a t te mo∧acc.paid a t te mo≤te)∧(0≤acc.fee t te∧acc.fee t te≤te)∧(0≤tar.cost t.ts (acc.rolled a mo).bo ((acc.rolled a mo).bo+u)∧tar.cost t.ts (acc.rolled a mo).bo ((acc.rolled a mo).bo+u)≤te)∧(0≤acc.rest a t te mo - tar.cost t.ts (acc.rolled a mo).bo ((acc.rolled a mo).bo+u)∧acc.rest a t te mo - tar.cost t.ts (acc.rolled a mo).bo ((acc.rolled a mo).bo+u)≤te)∧acc.paid a t te mo+acc.fee t te+tar.cost t.ts (acc.rolled a mo).bo ((acc.rolled a mo).bo+u)+(acc.rest a t te mo - tar.cost t.ts (acc.rolled a mo).bo ((acc.rolled a mo).bo+u))=te;generalize tar.cost t.ts (acc.rolled a mo).bo ((acc.rolled a mo).bo+u)=C at *;generalize acc.rest a t te mo=R at *;generalize acc.paid a t te mo=P at *;generalize acc.fee t te=F at *;omega
theorem grant_ev {a:Ac} {t:Tm} {mo:Int} {b:Ac} {l:Bi} {me tg:Int} (h:GrantIs a t mo b l 0) (ha:a.me=me) (ht:0≤tg∧tg≤65535):EMay (tokE 3 me mo l tg):=by
 rcases h with ⟨h,rfl,rfl⟩ | ⟨_,_,h,_⟩ | ⟨_,_,_,h,_⟩ | ⟨_,_,_,_,h,_⟩ | ⟨hr,hal,_,hn,_,rfl,rfl⟩
 ·rcases h with ⟨_,h⟩ | ⟨_,h1,h2⟩ | ⟨_,_,_,h⟩
  ·cases h
  ·exact absurd (h2.ok.1 rfl) h1
  ·exact absurd rfl h.ne
 ·cases h
 ·cases h
 ·cases h
 ·have h2:=hr.2.1.2.2.2.2;exact ⟨by rw [← ha];exact hr.1.2.1,.inr (.inr ⟨⟨by show (2:Int)≤3;omega,by show (3:Int)≤4;omega⟩,⟨hr.1.2.2.2.1.1,hn⟩,ht,⟨rfl,rfl⟩,.inr ⟨by show (3:Int)≠4;omega,hr.2.2.1,⟨by show 1≤t.al;have:=h2.1;omega,h2.2⟩,.inl ⟨rfl,rfl,rfl,rfl,rfl,rfl⟩⟩⟩)⟩
theorem rekey_ev {a b:Ac} {l:Bi} {me tg:Int} (h:RekeyIs a b l 0) (ha:a.me=me) (ht:0≤tg∧tg≤65535):EMay (tokE 4 me 0 l tg):=by
 rcases h with ⟨_,_,_,h⟩ | ⟨_,_,_,_,h⟩ | ⟨_,_,_,_,_,h⟩ | ⟨hr,_,hn,rfl,rfl,_⟩
 ·cases h
 ·cases h
 ·cases h
 ·exact ⟨by rw [← ha];exact hr.2.1,.inr (.inr ⟨⟨by show (2:Int)≤4;omega,by show (4:Int)≤4;omega⟩,⟨hr.2.2.2.1.1,hn⟩,ht,⟨rfl,rfl⟩,.inl ⟨rfl,rfl,rfl,rfl,rfl,rfl,rfl,rfl⟩⟩)⟩
theorem tag_bd {l ls:List Pr} {m r b d x:Int} (h:IssueIs l m r b d ls x 0):0≤x∧x≤65535:=by
 rcases h with ⟨_,_,_,h⟩ | ⟨_,_,_,_,h⟩ | ⟨hm,hp,⟨i,hi,rfl⟩,_,_⟩ | ⟨_,_,_,_,_,_,h⟩ | ⟨_,hp,_,_,_,rfl,_⟩
 ·cases h
 ·cases h
 ·exact (hm.each i hi.lt).1.2.2.2
 ·cases h
 ·exact hp.2.2.2
def Asked (kd mo:Int):Prop:=kd=2∨kd=3∨(kd=4∧mo=0)
theorem tells_ev {kd:Int} {t:Tm} {c:Cm} {me te mo:Int} {b:Ac} {l:Bi} {tg:Int} (hk:Asked kd mo) (h:Tells t c (askE kd me te mo) b l 0) (ha:c.a.me=me) (ht:0≤tg∧tg≤65535):EMay (tokE kd me mo l tg)∧Tells t c (tokE kd me mo l tg) b l 0:=by
 rcases h with ⟨e,h⟩ | ⟨e,h⟩ | ⟨e,h⟩
 ·have e:kd=2:=e;subst e;obtain ⟨h1,h2⟩:=sell_ev h ha ht;refine ⟨h1,.inl ⟨rfl,?_⟩⟩;show SellIs c.a t l.te mo b l 0;rw [h2];exact h
 ·have e:kd=3:=e;subst e;exact ⟨grant_ev h ha ht,.inr (.inl ⟨rfl,h⟩)⟩
 ·have e:kd=4:=e;subst e;have hm:mo=0:=by rcases hk with k | k | k;cases k;cases k;exact k.2
  subst hm;exact ⟨rekey_ev h ha ht,.inr (.inr ⟨rfl,h⟩)⟩
theorem tok_step {kd:Int} {t:Tm} {c:List Int} {o:List Pr} {me te mo dr:Int} {ls:List Wr} {o':List Pr} {r:Rc} {bk:List Cm} (hk:Asked kd mo) (hl:LoadIs t c bk 0) (h:TokIs kd t c o me te mo dr ls o' r 0) :
  ∃ k b l tg,FirstAt bk me k∧Tells t (bk.getD k cm0) (tokE kd me mo l tg) b l 0∧IssueIs o me (bk.getD k cm0).a.rv ((tokB kd (bk.getD k cm0).a.rv l 0).body:Int) dr o' tg 0∧EMay (tokE kd me mo l tg) ∧
   StepIs t bk (tokE kd me mo l tg) (bk.set k ⟨b,(bk.getD k cm0).so++[soldOf (bk.getD k cm0) (tokE kd me mo l tg)]⟩) 0∧KeepIs c (tokE kd me mo l tg) ls 0∧r=recB kd (bk.getD k cm0).a.rv me l tg:=by
 obtain ⟨bk',g,hl',h⟩:=h;obtain ⟨rfl,rfl⟩:=hl'.one hl;rcases h with ⟨p,_⟩ | ⟨_,_,_,_,_,q⟩ | ⟨_,k,b,l,x,hf,ht,⟨p,_,_,_,q⟩ | ⟨rfl,o2,tg,g2,hi,⟨p,_,_,_,q⟩ | ⟨rfl,l2,g3,hke,⟨p,_,_,_,q⟩ | ⟨rfl,rfl,rfl,rfl,_⟩⟩⟩⟩
 ·exact absurd rfl p
 ·cases q
 ·exact absurd q.symm p
 ·exact absurd q.symm p
 ·exact absurd q.symm p
 ·obtain ⟨h1,h2⟩:=tells_ev hk ht hf.2.1 (tag_bd hi);refine ⟨k,b,l,tg,hf,h2,hi,h1,?_,hke,rfl⟩;have hne1:(tokE kd me mo l tg).kd≠1:=by show kd≠1;rcases hk with k | k | k <;> omega
  have hne5:(tokE kd me mo l tg).kd≠5:=by show kd≠5;rcases hk with k | k | k <;> omega
  exact .inr (.inr (.inr (.inr ⟨h1,hne1,k,_,hf,.inr ⟨hne5,b,l,0,h2,.inr (.inr ⟨rfl,rfl,rfl,rfl⟩)⟩,fun _=>rfl⟩)))
theorem tok_no {kd:Int} {t:Tm} {c:List Int} {o:List Pr} {me te mo dr:Int} {ls:List Wr} {o':List Pr} {r:Rc} {f:Int} (h:TokIs kd t c o me te mo dr ls o' r f) (hf:f≠0):ls=[]∧o'=[]∧r=rc0:=by
 obtain ⟨bk,g,_,⟨_,a,b,d,_⟩ | ⟨_,_,a,b,d,_⟩ | ⟨_,k,b,l,x,_,_,⟨_,a,e,d,_⟩ | ⟨_,o2,tg,g2,_,⟨_,a,e,d,_⟩ | ⟨_,l2,g3,_,⟨_,a,e,d,_⟩ | ⟨_,_,_,_,e⟩⟩⟩⟩⟩:=h
 ·exact ⟨a,b,d⟩
 ·exact ⟨a,b,d⟩
 ·exact ⟨a,e,d⟩
 ·exact ⟨a,e,d⟩
 ·exact ⟨a,e,d⟩
 ·exact absurd e hf
theorem cha_step {t:Tm} {c:List Int} {me ow bp:Int} {ls:List Wr} {bk:List Cm} (hl:LoadIs t c bk 0) (h:ChaIs t c me ow bp ls 0) :
  ∃ k b,FirstAt bk me k∧EMay (chaE me ow bp)∧StepIs t bk (chaE me ow bp) (bk.set k ⟨b,(bk.getD k cm0).so⟩) 0∧KeepIs c (chaE me ow bp) ls 0:=by
 obtain ⟨bk',g,hl',h⟩:=h;obtain ⟨rfl,rfl⟩:=hl'.one hl;rcases h with ⟨p,_⟩ | ⟨_,_,_,q⟩ | ⟨_,k,b,x,hf,ho,⟨p,_,q⟩ | ⟨rfl,hke⟩⟩
 ·exact absurd rfl p
 ·cases q
 ·exact absurd q.symm p
 ·have hm:(0≤me∧me≤49)∧((1≤ow∧ow≤1000000000)∧0≤bp∧bp≤10000):=by
   rcases ho with ⟨_,_,q⟩ | ⟨_,_,_,q⟩ | ⟨_,_,_,_,q⟩ | ⟨ha,hq,_,_,_⟩
   ·cases q
   ·cases q
   ·cases q
   ·exact ⟨by rw [← hf.2.1];exact ha.2.1,hq⟩
  have hev:EMay (chaE me ow bp):=⟨hm.1,.inr (.inl ⟨rfl,rfl,rfl,rfl,rfl,rfl,rfl,rfl,rfl,rfl,hm.2⟩)⟩
  exact ⟨k,b,hf,hev,.inr (.inr (.inr (.inr ⟨hev,by show (5:Int)≠1;omega,k,_,hf,.inl ⟨rfl,b,ho,fun _=>rfl⟩,fun _=>rfl⟩))),hke⟩
structure Shop (t:Tm) (c:List Int) (n:Nat) (l:List Ev) (bk:List Cm):Prop where
 len:c.length=n
 tape:disk.Tape c (l.map evL) (14*l.length)
 may:∀ v∈l,EMay v
 book:BookIs t l bk 0 0
theorem Shop.load {t:Tm} {c:List Int} {n:Nat} {l:List Ev} {bk:List Cm} (h:Shop t c n l bk):LoadIs t c bk 0:=load_tape h.tape h.may h.book
theorem Shop.next {t:Tm} {c:List Int} {n:Nat} {l:List Ev} {bk bk':List Cm} {v:Ev} {ls:List Wr} (h:Shop t c n l bk) (hn:l.length<120) (hf:14*l.length+13<n) (hv:EMay v) (hs:StepIs t bk v bk' 0) (hk:KeepIs c v ls 0):ls=appW c (14*l.length) (evL v)∧Shop t (wrt c ls) n (l++[v]) bk'∧∀ k,k<ls.length→Shop t (wrt c (ls.take k)) n l bk:=by
 obtain ⟨rfl,_⟩:=keep_tape h.tape h.may hv hn (by rw [h.len];exact hf) hk;have hw:∀ (m:List Wr),(wrt c m).length=n:=fun m=>by rw [cell.wrt_len];exact h.len
 refine ⟨rfl,⟨hw _,?_,?_,book_next h.book hn hs⟩,fun k hk2=>⟨hw _,tape_cut h.tape (by rw [h.len];exact hf) hk2,h.may,h.book⟩⟩
 ·have:=tape_next (v:=v) h.tape (by rw [h.len];exact hf);rw [List.length_append];rw [show 14*(l.length+[v].length)=14*l.length+14 by simp;omega];exact this
 ·intro x hx;rcases List.mem_append.1 hx with h2 | h2
  ·exact h.may x h2
  ·rw [List.mem_singleton.1 h2];exact hv
def Three (bk:List Cm):Prop:=bk.length=3∧∀ i,i<3→(bk.getD i cm0).a.me=(i:Int)
theorem three_set {t:Tm} {bk:List Cm} {v:Ev} {k:Nat} {x:Cm} (h:Three bk) (hs:StepIs t bk v (bk.set k x) 0):Three (bk.set k x):=by
 have hg:=step_grows hs;refine ⟨by rw [List.length_set];exact h.1,fun i hi=>?_⟩;rw [(hg.2 i (by rw [h.1];exact hi)).1];exact h.2 i hi
theorem app_ne (c:List Int) (e:Nat) (v:Ev):appW c e (evL v)≠[]:=fun h=>by
 have:=disk.app_len c e (evL v);rw [h,book.evL_len] at this;simp only [List.length_nil] at this;split at this <;> omega
structure Stepped (t:Tm) (c:List Int) (n:Nat) (l:List Ev) (bk:List Cm) (v:Ev) (bk':List Cm) (ls:List Wr):Prop where
 ev:EMay v
 step:StepIs t bk v bk' 0
 keep:KeepIs c v ls 0
 some:ls≠[]
 whole:Shop t (wrt c ls) n (l++[v]) bk'
 torn:∀ k,k<ls.length→Shop t (wrt c (ls.take k)) n l bk
theorem stepped {t:Tm} {c:List Int} {n:Nat} {l:List Ev} {bk bk':List Cm} {v:Ev} {ls:List Wr} (h:Shop t c n l bk) (hn:l.length<120) (hf:14*l.length+13<n) (hv:EMay v) (hs:StepIs t bk v bk' 0) (hk:KeepIs c v ls 0):Stepped t c n l bk v bk' ls:=by
 obtain ⟨e,h1,h2⟩:=h.next hn hf hv hs hk;exact ⟨hv,hs,hk,by rw [e];exact app_ne _ _ _,h1,h2⟩
theorem serve_step {t:Tm} {c:List Int} {n:Nat} {l:List Ev} {bk:List Cm} {o:List Pr} {x:Od} {ls:List Wr} {o':List Pr} {r:Rc} (h:Shop t c n l bk) (h3:Three bk) (hn:l.length<120) (hf:14*l.length+13<n) (hs:ServedIs t c o x ls o' r 0):∃ v bk',Stepped t c n l bk v bk' ls∧Three bk':=by
 rcases hs with ⟨_,hc,_,_⟩ | ⟨_,hc⟩ | ⟨_,hc⟩ | ⟨_,hc⟩
 ·obtain ⟨k,b,_,hv,hst,hke⟩:=cha_step h.load hc;exact ⟨_,_,stepped h hn hf hv hst hke,three_set h3 hst⟩
 ·obtain ⟨k,b,l2,tg,_,_,_,hv,hst,hke,_⟩:=tok_step (.inr (.inl rfl)) h.load hc;exact ⟨_,_,stepped h hn hf hv hst hke,three_set h3 hst⟩
 ·obtain ⟨k,b,l2,tg,_,_,_,hv,hst,hke,_⟩:=tok_step (.inr (.inr ⟨rfl,rfl⟩)) h.load hc;exact ⟨_,_,stepped h hn hf hv hst hke,three_set h3 hst⟩
 ·obtain ⟨k,b,l2,tg,_,_,_,hv,hst,hke,_⟩:=tok_step (.inl rfl) h.load hc;exact ⟨_,_,stepped h hn hf hv hst hke,three_set h3 hst⟩
theorem shop_blank {t:Tm} (ht:acc.TRight t) {n:Nat} (h0:1≤n) (h1:n≤2048):Shop t (List.replicate n 0) n [] []:=
 ⟨List.length_replicate,disk.Tape.blank h0 h1,(fun v hv=>by cases hv),.inr (.inr ⟨ht,by simp,0,fun _=>[],rfl,(fun i hi=>absurd hi (Nat.not_lt_zero _)),.inl ⟨rfl,rfl,rfl,rfl⟩⟩)⟩
def Regs (bk:List Cm) (k:Nat):Prop:=bk.length=k∧∀ i,i<k→(bk.getD i cm0).a.me=(i:Int)
theorem Regs.none {bk:List Cm} {k:Nat} (h:Regs bk k):NoneAt bk (k:Int):=fun j hj=>by
 rw [h.1] at hj;rw [h.2 j hj];omega
theorem Regs.next {bk:List Cm} {k:Nat} (h:Regs bk k) (so:List So):Regs (bk++[⟨⟨(k:Int),0,1,0,0,-1,[]⟩,so⟩]) (k+1):=by
 refine ⟨by rw [List.length_append,h.1];rfl,fun i hi=>?_⟩;by_cases e:i<bk.length
 ·rw [getD_appC _ _ _ e];exact h.2 i (by rw [← h.1];exact e)
 ·obtain rfl:i=bk.length:=by have:=h.1;omega
  have:(bk++[(⟨⟨(k:Int),0,1,0,0,-1,[]⟩,so⟩:Cm)]).getD bk.length cm0=⟨⟨(k:Int),0,1,0,0,-1,[]⟩,so⟩:=by simp [List.getD]
  rw [this];show (k:Int)=_;rw [h.1]
theorem reg_yes {t:Tm} {c:List Int} {n:Nat} {l:List Ev} {bk:List Cm} {k:Nat} {ls:List Wr} {f:Int} (h:Shop t c n l bk) (hr:Regs bk k) (hk:k<50) (hn:l.length<120) (hf:14*l.length+13<n) (hs:RegIs t c (k:Int) ls f):f=0∧Stepped t c n l bk (regE (k:Int)) (bk++[⟨⟨(k:Int),0,1,0,0,-1,[]⟩,[]⟩]) ls:=by
 obtain ⟨bk',g,hl,hh⟩:=hs;obtain ⟨rfl,rfl⟩:=hl.one h.load;rcases hh with ⟨p,_⟩ | ⟨_,p,_⟩ | ⟨_,_,p,_⟩ | ⟨_,hm,hno,hke⟩
 ·exact absurd rfl p
 ·exact absurd ⟨by omega,by omega⟩ p
 ·exact absurd hr.none p
 ·have hev:EMay (regE (k:Int)):=⟨hm,.inl ⟨rfl,rfl,rfl,rfl,rfl,rfl,rfl,rfl,rfl,rfl,rfl,rfl⟩⟩
  obtain ⟨_,rfl⟩:=keep_tape h.tape h.may hev hn (by rw [h.len];exact hf) hke;exact ⟨rfl,stepped h hn hf hev (.inr (.inr (.inl ⟨hev,rfl,hno,rfl,rfl⟩))) hke⟩
end vnd
namespace cell
open Go.RowKit
def fv (B:Nat):Value:= .func (.func 47) #[] #[.pointer (some ⟨B,0,none⟩)]
theorem astray_any (B n cc:Nat) (ca:Option Addr) (e0:Wr) (W:World) (hc:W.cell? ⟨B,0,none⟩=some (.slice ca n cc)) (hB:B<W.heap.size) (hn:n≤2048) :
  Calls Tryz.prog 47 #[.agg #[zI e0.p,.int .u32 e0.d],.pointer (some ⟨B,0,none⟩)] W fun e w'=>e = .returned (.bool (!inN n e0))∧Below W.heap.size W w':=by
 obtain ⟨p,d⟩:=e0;have hc2:(W.alloc (.cells #[zI p,.int .u32 d] 122)).cell? ⟨B,0,none⟩=some (.slice ca n cc):=by rw [World.cell?_alloc_lt W _ _ hB];exact hc
 have HB:Hid (Below W.heap.size W (W.alloc (.cells #[zI p,.int .u32 d] 122))):=(Below.refl _ _).alloc (Nat.le_refl _) _;clear hc hB;by_cases h0:p<0
 ·have e1:(!inN n ⟨p,d⟩)=true:=by simp [inN];omega
  rw [e1];clear e1;go_enter Tryz.func47,Tryz.ntmps47;go_wp2_with fail;go_ret;exact ⟨rfl,HB.o⟩
 ·by_cases h1:p<n
  ·have e1:(!inN n ⟨p,d⟩)=false:=by simp [inN];omega
   have h2:decide ((n:Int)≤p)=false:=by simp;omega
   rw [e1];clear e1;go_enter Tryz.func47,Tryz.ntmps47;go_wp2_with fail;go_ret;exact ⟨rfl,HB.o⟩
  ·have e1:(!inN n ⟨p,d⟩)=true:=by simp [inN];omega
   have h2:decide ((n:Int)≤p)=true:=by simp;omega
   rw [e1];clear e1;go_enter Tryz.func47,Tryz.ntmps47;go_wp2_with fail;go_ret;exact ⟨rfl,HB.o⟩
def IxPost (w:World) (n:Nat) (ls:List Wr) (e:Ending) (w':World):Prop:=
 ∃ r:Int,e = .returned (zI r)∧(allN n ls=true∧r=-1∨allN n ls=false∧0≤r)∧Below w.heap.size w w'
theorem index_any (B n cc m c2:Nat) (ca b:Option Addr) (ls:List Wr) (w:World) (hc:w.cell? ⟨B,0,none⟩=some (.slice ca n cc)) (hn:n≤2048) (hr:RowW w b m ls) (hm:m≤4096) :
  Calls Tryz.prog 82 #[.slice b m c2,fv B] w fun e w'=>IxPost w n ls e w':=by
 have hB:=World.block_lt_of_cell? w _ hc
 have HC:Hid (∀ wr,Below w.heap.size w wr→∀ e0:Wr,Calls Tryz.prog 47 #[.agg #[zI e0.p,.int .u32 e0.d],.pointer (some ⟨B,0,none⟩)] wr fun e w'=>e = .returned (.bool (!inN n e0))∧Below wr.heap.size wr w'):=fun wr hb e0=>
  astray_any B n cc ca e0 wr ((hb.cell (p:=⟨B,0,none⟩) hB).trans hc) (Nat.lt_of_lt_of_le hB hb.size) hn
 have HR:Hid (RowW w b m ls):=hr;have HL:Hid (ls.length=m):=hr.1;clear hc hB hr;unfold fv;go_enter Tryz.func82,Tryz.ntmps82;go_wp2_with fail;go_loopw [8] (fun i wr=>∃ k:Nat,k≤m∧i=zI (k:Int)∧allN n (ls.take k)=true∧Below w.heap.size w wr) (fun i _=>m - (intOf i).toNat)
 case atStart=>exact ⟨0,Nat.zero_le _,rfl,rfl,Below.refl _ _⟩
 case round=>
  obtain ⟨k,hk,rfl,hal,hb⟩:=hrel;have HA:Hid (allN n (ls.take k)=true):=hal;have HB:Hid (Below w.heap.size w wr):=hb;clear hal hb;by_cases hlt:k<m
  ·obtain ⟨b2,o2,rfl,l2,hc2⟩:=HR.o.at (by omega);have f1:wr.cell? ⟨b2,o2+k*2,none⟩=some (zI (ls.getD k wr0).p):=(HB.o.cell (p:=⟨b2,o2+k*2,none⟩) l2).trans (hc2 k hlt).1;have f2:wr.cell? ⟨b2,o2+k*2+1,none⟩=some (.int .u32 (ls.getD k wr0).d):=(HB.o.cell (p:=⟨b2,o2+k*2+1,none⟩) l2).trans (hc2 k hlt).2;have hcall:=HC.o wr HB.o (ls.getD k wr0);have HST:Hid (allN n (ls.take (k+1))=(allN n (ls.take k) && inN n (ls.getD k wr0))):=allN_step n ls k (by have:=HL.o;omega);have HFL:Hid (inN n (ls.getD k wr0)=false→allN n ls=false):=fun h=>allN_of_false (by have:=HL.o;omega) h;clear hc2 l2;cases hi:inN n (ls.getD k wr0) with
   | true=>
    rw [hi] at hcall HST;have HSA:Hid (allN n (ls.take (k+1))=true):=by show _=_;rw [HST.o,HA.o];rfl
    have HCL:Hid (Calls Tryz.prog 47 #[.agg #[zI (ls.getD k wr0).p,.int .u32 (ls.getD k wr0).d],.pointer (some ⟨B,0,none⟩)] wr fun e w'=>e = .returned (.bool false)∧Below wr.heap.size wr w'):=hcall;clear hcall HST HFL hi;generalize (ls.getD k wr0).p=p at *;generalize (ls.getD k wr0).d=d at *;go_wp2_with fail;refine HCL.o.mono ?_;rintro e w' ⟨rfl,hb'⟩;have HB':Hid (Below w.heap.size w w'):=bel_step HB.o hb';clear hb' f1 f2;go_wp2_with fail;go_roundw
    case rel=>exact ⟨k+1,by omega,by go_num,HSA.o,HB'.o⟩
    case measure=>simp [intOf];omega
   | false=>
    rw [hi] at hcall;have HFA:Hid (allN n ls=false):=HFL.o hi;have HCL:Hid (Calls Tryz.prog 47 #[.agg #[zI (ls.getD k wr0).p,.int .u32 (ls.getD k wr0).d],.pointer (some ⟨B,0,none⟩)] wr fun e w'=>e = .returned (.bool true)∧Below wr.heap.size wr w'):=hcall;clear hcall HST HFL hi;generalize (ls.getD k wr0).p=p at *;generalize (ls.getD k wr0).d=d at *;go_wp2_with fail;refine HCL.o.mono ?_;rintro e w' ⟨rfl,hb'⟩;have HB':Hid (Below w.heap.size w w'):=bel_step HB.o hb';clear hb' f1 f2;go_wp2_with fail;go_ret;exact ⟨(k:Int),rfl,.inr ⟨HFA.o,by omega⟩,HB'.o⟩
  ·obtain rfl:k=m:=by omega
   have HFA:Hid (allN n ls=true):=by have:=HA.o;rw [List.take_of_length_le (by have:=HL.o;omega)] at this;exact this
   go_wp2_with fail;go_ret;exact ⟨-1,rfl,.inl ⟨HFA.o,rfl⟩,HB.o⟩
theorem contains_any (B n cc m c2:Nat) (ca b:Option Addr) (ls:List Wr) (w:World) (hc:w.cell? ⟨B,0,none⟩=some (.slice ca n cc)) (hn:n≤2048) (hr:RowW w b m ls) (hm:m≤4096) :
  Calls Tryz.prog 48 #[.slice b m c2,fv B] w fun e w'=>e = .returned (.bool (!allN n ls))∧Below w.heap.size w w':=by
 have HI:Hid (Calls Tryz.prog 82 #[.slice b m c2,fv B] w fun e w'=>IxPost w n ls e w'):=index_any B n cc m c2 ca b ls w hc hn hr hm;clear hc hr;generalize fv B=V at *;go_enter Tryz.func48,Tryz.ntmps48;go_wp2_with fail;refine HI.o.mono ?_;rintro e w' ⟨r,rfl,hr,hb'⟩;have HB':Hid (Below w.heap.size w w'):=hb';clear hb';rcases hr with ⟨ha,rfl⟩ | ⟨ha,hr⟩
 ·have HA:Hid ((!allN n ls)=false):=by show _=_;rw [ha];rfl
  clear ha;go_wp2_with fail;go_ret;exact ⟨by rw [HA.o];rfl,HB'.o⟩
 ·have HA:Hid ((!allN n ls)=true):=by show _=_;rw [ha];rfl
  clear ha;have hd:decide ((0:Int)≤r)=true:=by simpa using hr
  go_wp2_with fail;go_ret;exact ⟨by rw [HA.o];rfl,HB'.o⟩
end cell
namespace book
open Go.RowKit
theorem bleft2 (kd me mo id te de fe pr ch un tg ow bp:Int) (w:World) (q2:(kd == 2)=true):Calls Tryz.prog 111 #[.agg #[zI kd,zI me,zI mo,zI id,zI te,zI de,zI fe,zI pr,zI ch,zI un,zI tg,zI ow,zI bp]] w fun e w'=>e = .returned (.agg #[zI 0,zI 0,zI 0,zI 0,zI 0,zI 0,zI 0,zI 0,zI 0,zI 0,zI 0,zI ow,zI bp])∧Below w.heap.size w w':=by
 go_enter Tryz.func111,Tryz.ntmps111;go_wp2;exact bodyPost_ret (v:= .agg #[zI 0,zI 0,zI 0,zI 0,zI 0,zI 0,zI 0,zI 0,zI 0,zI 0,zI 0,zI ow,zI bp]) (by simp [results,Tryz.results111,go_sem]) rfl ⟨rfl,bki.bel2 _ _ _⟩
theorem bleft3 (kd me mo id te de fe pr ch un tg ow bp:Int) (w:World) (q2:(kd == 2)=false) (q3:(kd == 3)=true):Calls Tryz.prog 111 #[.agg #[zI kd,zI me,zI mo,zI id,zI te,zI de,zI fe,zI pr,zI ch,zI un,zI tg,zI ow,zI bp]] w fun e w'=>e = .returned (.agg #[zI 0,zI 0,zI 0,zI 0,zI te,zI de,zI fe,zI pr,zI ch,zI 0,zI 0,zI ow,zI bp])∧Below w.heap.size w w':=by
 go_enter Tryz.func111,Tryz.ntmps111;go_wp2;exact bodyPost_ret (v:= .agg #[zI 0,zI 0,zI 0,zI 0,zI te,zI de,zI fe,zI pr,zI ch,zI 0,zI 0,zI ow,zI bp]) (by simp [results,Tryz.results111,go_sem]) rfl ⟨rfl,bki.bel2 _ _ _⟩
theorem bleft4 (kd me mo id te de fe pr ch un tg ow bp:Int) (w:World) (q2:(kd == 2)=false) (q3:(kd == 3)=false) (q4:(kd == 4)=true):Calls Tryz.prog 111 #[.agg #[zI kd,zI me,zI mo,zI id,zI te,zI de,zI fe,zI pr,zI ch,zI un,zI tg,zI ow,zI bp]] w fun e w'=>e = .returned (.agg #[zI 0,zI 0,zI mo,zI 0,zI te,zI de,zI fe,zI pr,zI ch,zI un,zI 0,zI ow,zI bp])∧Below w.heap.size w w':=by
 go_enter Tryz.func111,Tryz.ntmps111;go_wp2;exact bodyPost_ret (v:= .agg #[zI 0,zI 0,zI mo,zI 0,zI te,zI de,zI fe,zI pr,zI ch,zI un,zI 0,zI ow,zI bp]) (by simp [results,Tryz.results111,go_sem]) rfl ⟨rfl,bki.bel2 _ _ _⟩
theorem bleft5 (kd me mo id te de fe pr ch un tg ow bp:Int) (w:World) (q2:(kd == 2)=false) (q3:(kd == 3)=false) (q4:(kd == 4)=false) (q5:(kd == 5)=true):Calls Tryz.prog 111 #[.agg #[zI kd,zI me,zI mo,zI id,zI te,zI de,zI fe,zI pr,zI ch,zI un,zI tg,zI ow,zI bp]] w fun e w'=>e = .returned (.agg #[zI 0,zI 0,zI mo,zI id,zI te,zI de,zI fe,zI pr,zI ch,zI un,zI tg,zI 0,zI 0])∧Below w.heap.size w w':=by
 go_enter Tryz.func111,Tryz.ntmps111;go_wp2;exact bodyPost_ret (v:= .agg #[zI 0,zI 0,zI mo,zI id,zI te,zI de,zI fe,zI pr,zI ch,zI un,zI tg,zI 0,zI 0]) (by simp [results,Tryz.results111,go_sem]) rfl ⟨rfl,bki.bel2 _ _ _⟩
theorem bleft0 (kd me mo id te de fe pr ch un tg ow bp:Int) (w:World) (q2:(kd == 2)=false) (q3:(kd == 3)=false) (q4:(kd == 4)=false) (q5:(kd == 5)=false):Calls Tryz.prog 111 #[.agg #[zI kd,zI me,zI mo,zI id,zI te,zI de,zI fe,zI pr,zI ch,zI un,zI tg,zI ow,zI bp]] w fun e w'=>e = .returned (.agg #[zI 0,zI 0,zI mo,zI id,zI te,zI de,zI fe,zI pr,zI ch,zI un,zI tg,zI ow,zI bp])∧Below w.heap.size w w':=by
 go_enter Tryz.func111,Tryz.ntmps111;go_wp2;exact bodyPost_ret (v:= .agg #[zI 0,zI 0,zI mo,zI id,zI te,zI de,zI fe,zI pr,zI ch,zI un,zI tg,zI ow,zI bp]) (by simp [results,Tryz.results111,go_sem]) rfl ⟨rfl,bki.bel2 _ _ _⟩
theorem bleft (v:Ev) (w:World):Calls Tryz.prog 111 #[v.v] w fun e w'=>e = .returned (leftE v).v∧Below w.heap.size w w':=by
 obtain ⟨kd,me,mo,id,te,de,fe,pr,ch,un,tg,ow,bp⟩:=v;unfold leftE Ev.v;simp only;by_cases k2:kd=2
 ·rw [if_pos k2];exact bleft2 kd me mo id te de fe pr ch un tg ow bp w (by simpa using k2)
 rw [if_neg k2];by_cases k3:kd=3
 ·rw [if_pos k3];exact bleft3 kd me mo id te de fe pr ch un tg ow bp w (by simpa using k2) (by simpa using k3)
 rw [if_neg k3];by_cases k4:kd=4
 ·rw [if_pos k4];exact bleft4 kd me mo id te de fe pr ch un tg ow bp w (by simpa using k2) (by simpa using k3) (by simpa using k4)
 rw [if_neg k4];by_cases k5:kd=5
 ·rw [if_pos k5];exact bleft5 kd me mo id te de fe pr ch un tg ow bp w (by simpa using k2) (by simpa using k3) (by simpa using k4) (by simpa using k5)
 rw [if_neg k5];exact bleft0 kd me mo id te de fe pr ch un tg ow bp w (by simpa using k2) (by simpa using k3) (by simpa using k4) (by simpa using k5)
end book
namespace vnd
open disk (RepIs AppIs)
open book (Ev ev0 EMay evL evOf EncIs DecIs Cm cm0 So so0 BookIs Sees ECame FirstAt NoneAt)
open acc (Ac Tm Bi TCame ACame)
open cell (Wr RowU)
open Go.RowKit
theorem rowP_off {w W:World} {g:Nat} {v':Array Value} {T':TypeId} {p:Option Addr} {n:Nat} {l:List ora.Pr} (h:ora.RowP w p n l) (hg:∀ y,p=some y→y.block≠g) (hU:Upd w W g v' T'):ora.RowP W p n l:=by
 refine ⟨h.1,?_⟩;rcases h.2 with h0 | ⟨b,off,rfl,hc⟩
 ·exact .inl h0
 ·refine .inr ⟨b,off,rfl,fun i hi=>?_⟩;have hne:b≠g:=hg _ rfl;have h1:=hc i hi;unfold ora.PrAt at h1 ⊢;have hx:∀ o,W.cell? ⟨b,o,none⟩=w.cell? ⟨b,o,none⟩:=fun o=>hU.cell ⟨b,o,none⟩ hne rfl;simpa only [hx] using h1
theorem step_wf {t:Tm} {bk bk':List Cm} {v:Ev} (h:book.StepIs t bk v bk' 0) (hw:book.AWf bk):book.AWf bk':=by
 rcases h with ⟨_,e⟩ | ⟨_,_,_,e⟩ | ⟨m,_,_,_,rfl⟩ | ⟨_,_,_,e⟩ | ⟨m,_,k,c',_,hh,hs⟩
 ·cases e
 ·cases e
 ·exact hw.snoc ⟨(book.wf_may m).2.1,rfl,rfl,rfl,rfl,rfl⟩
 ·cases e
 ·rw [hs rfl];exact hw.set (book.hap_wf hh m).1
theorem book_wf {t:Tm} {l:List Ev} {bk:List Cm} {a:Int} (h:BookIs t l bk a 0):book.AWf bk:=by
 obtain ⟨_,_,_,st,s0,s1,rfl⟩:=book_ok h
 have:∀ i,i≤l.length→book.AWf (st i):=by
  intro i
  induction i with
  | zero=>intro _ c hc;rw [s0] at hc;cases hc
  | succ i ih=>intro hi;exact step_wf (s1 i (by omega)) (ih (by omega))
 exact this _ (Nat.le_refl _)
theorem load_wf {t:Tm} {c:List Int} {bk:List Cm} (h:LoadIs t c bk 0):book.AWf bk:=by
 obtain ⟨l,e,_,⟨p,_,q⟩ | ⟨_,a,q⟩⟩:=h
 ·exact absurd q.symm p
 ·exact book_wf q
theorem book_no {t:Tm} {l:List Ev} {bk:List Cm} {a f:Int} (h:BookIs t l bk a f) (hf:f≠0):bk=[]:=by
 rcases h with ⟨_,_,p,_⟩ | ⟨_,_,p,_⟩ | ⟨_,_,k,st,_,_,⟨_,_,_,p⟩ | ⟨_,_,_,p,_⟩⟩
 ·exact p
 ·exact p
 ·exact absurd p hf
 ·exact p
def NoTwo (w:World) (g:Nat):Prop:=∀ o x y,w.cell? ⟨g,o,none⟩=some (zI x)→w.cell? ⟨g,o+1,none⟩=some (zI y)→False
theorem shop_odd {w:World} {g:Nat} {T:TypeId} {a1 b1:Option Addr} {a2 a3 b2 b3:Nat} {z:Value} (hB:Blk w g #[.slice a1 a2 a3,.slice b1 b2 b3,z] T):NoTwo w g:=by
 intro o x y h1 h2
 match o,h1,h2 with
 | 0,h1,_=>rw [hB.cell 0] at h1;cases h1
 | 1,h1,_=>rw [hB.cell 1] at h1;cases h1
 | o+2,_,h2=>rw [hB.cell (o+2+1)] at h2;simp at h2
theorem rowC_far {w W:World} {g:Nat} {v':Array Value} {T':TypeId} {p:Option Addr} {n:Nat} {xs:List book.Cu} (h:book.RowC w p n xs) (hg:NoTwo w g) (hU:Upd w W g v' T'):book.RowC W p n xs:=by
 refine ⟨h.1,?_⟩;rcases h.2 with h0 | ⟨b,off,rfl,lb,hc⟩
 ·exact .inl h0
 ·rcases Nat.eq_zero_or_pos n with h0 | h0
  ·exact .inl h0
  ·have hne:b≠g:=fun e=>by
    subst e;have h1:=hc 0 0 h0 (by decide);have h2:=hc 0 1 h0 (by decide);exact hg (off+0*8+0) (xs.getD 0 book.cu0).me (xs.getD 0 book.cu0).rv (by rw [h1];rfl) (by rw [show off+0*8+0+1=off+0*8+1 by omega,h2];rfl)
   exact .inr ⟨b,off,rfl,by rw [hU.size];exact lb,fun i j hi hj=>by rw [hU.cell _ hne rfl];exact hc i j hi hj⟩
theorem rowS_far {w W:World} {g:Nat} {v':Array Value} {T':TypeId} {p:Option Addr} {n:Nat} {l:List So} (h:book.RowS w p n l) (hg:NoTwo w g) (hU:Upd w W g v' T'):book.RowS W p n l:=by
 refine ⟨h.1,?_⟩;rcases h.2 with h0 | ⟨b,off,rfl,lb,hc⟩
 ·exact .inl h0
 ·rcases Nat.eq_zero_or_pos n with h0 | h0
  ·exact .inl h0
  ·have hne:b≠g:=fun e=>by
    subst e;have h1:=hc 0 0 h0 (by decide);have h2:=hc 0 1 h0 (by decide);exact hg (off+0*5+0) (l.getD 0 so0).id (l.getD 0 so0).cl (by rw [h1];rfl) (by rw [show off+0*5+0+1=off+0*5+1 by omega,h2];rfl)
   exact .inr ⟨b,off,rfl,by rw [hU.size];exact lb,fun i j hi hj=>by rw [hU.cell _ hne rfl];exact hc i j hi hj⟩
theorem came_far {w W:World} {g:Nat} {v':Array Value} {T':TypeId} {p:Option Addr} {n cap:Nat} {l:List tar.Du} (h:tar.Came w p n cap l) (hg:NoTwo w g) (hU:Upd w W g v' T'):tar.Came W p n cap l:=
 acc.came_upd h hU fun hn x hx e=>by
  obtain ⟨b,off,hp,lb,hc⟩:=h.row.at hn;rw [hp] at hx;cases hx;have e2:b=g:=e;subst e2;exact hg _ _ _ (hc 0 hn).1 (hc 0 hn).2
theorem sees_far {w W:World} {g:Nat} {v':Array Value} {T':TypeId} {p:Option Addr} {n:Nat} {xs:List book.Cu} {bk:List Cm} (h:Sees w p n xs bk) (hg:NoTwo w g) (hU:Upd w W g v' T'):Sees W p n xs bk:=
 ⟨rowC_far h.row hg hU,h.len,h.num,fun i hi=>came_far (h.ds i hi) hg hU,fun i hi=>rowS_far (h.so i hi) hg hU⟩
end vnd
end Go.Proofs.YtnpblpbohcegoaaGreatDoor
