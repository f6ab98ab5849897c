import Derived.Test.YtnpblpbohcegoaaGreatDoorVVRry16
import Derived.Test.YtnpblpbohcegoaaGreatDoorVVRry22
set_option linter.unusedVariables false
set_option linter.unusedSimpArgs false
set_option maxHeartbeats 4000000
set_option maxRecDepth 100000
namespace Go.Proofs.YtnpblpbohcegoaaGreatDoor
namespace check
open Go.RowKit
def pick (n many:Int):Int:=(if n<0 then -(n+1) else n) % many
theorem pick_nonneg (n many:Int) (h:0<many):0≤pick n many:=Int.emod_nonneg _ (by omega)
theorem pick_lt (n many:Int) (h:0<many):pick n many<many:=Int.emod_lt_of_pos _ h
theorem picked_any (n many:Int) (w:World) (hn:(Lit.int .i64 n).wf=true) (hm:0<many) (hm':many≤4000000000000) :
  Calls Tryz.prog 18 #[zI n,zI many] w fun e w'=>e = .returned (zI (pick n many))∧w'=w:=by
 have hb:-9223372036854775808≤n∧n≤9223372036854775807:=bounds_i64 hn;obtain ⟨hb1,hb2⟩:=hb;by_cases h:n<0
 ·have e0:pick n many=(-(n+1)) % many:=by unfold pick;rw [if_pos h]
  rw [e0];go_enter Tryz.func18,Tryz.ntmps18;go_wp2;go_ret;exact ⟨by rw [← Int.neg_tmod,Int.tmod_eq_emod_of_nonneg (by omega)];rfl,rfl⟩
 ·have e0:pick n many=n % many:=by unfold pick;rw [if_neg h]
  rw [e0];go_enter Tryz.func18,Tryz.ntmps18;go_wp2;go_ret;exact ⟨rfl,rfl⟩
end check
namespace vnd
open book (Ev ev0 Cm cm0 So so0 Sees)
open acc (Ac Tm Bi)
open ora (Pr)
open cell (Wr RowU RowW)
open rcp (Rc rc0)
open Go.RowKit
structure Od where
 k:Int
 m:Int
 a:Int
 b:Int
 d:Int
def od0:Od:=⟨0,0,0,0,0⟩
def wf5 (x:Od):Prop:=(Lit.int .i64 x.k).wf=true∧(Lit.int .i64 x.m).wf=true∧(Lit.int .i64 x.a).wf=true∧(Lit.int .i64 x.b).wf=true∧(Lit.int .i64 x.d).wf=true
def ServedIs (t:Tm) (c:List Int) (o:List Pr) (x:Od) (ls:List Wr) (o':List Pr) (r:Rc) (f:Int):Prop:=
 (check.pick x.k 8=0∧ChaIs t c (check.pick x.m 3) (1+check.pick x.a 100000) (check.pick x.b 1000) ls f∧o'=o∧r=rc0) ∨
 (check.pick x.k 8=1∧TokIs 3 t c o (check.pick x.m 3) 0 (check.pick x.b 12) (check.pick x.d 65536) ls o' r f) ∨
 (check.pick x.k 8=2∧TokIs 4 t c o (check.pick x.m 3) 0 0 (check.pick x.d 65536) ls o' r f) ∨
 ((check.pick x.k 8≠0∧check.pick x.k 8≠1∧check.pick x.k 8≠2)∧TokIs 2 t c o (check.pick x.m 3) (1+check.pick x.a 1000000) (check.pick x.b 12) (check.pick x.d 65536) ls o' r f)
def ServePost (w:World) (ao:Option Addr) (no:Nat) (R:List Wr→List Pr→Rc→Int→Prop) (e:Ending) (w':World):Prop:=∃ p m cp ls p5 n5 c5 o' r f,e = .returned (.tuple #[.slice p m cp,.agg #[.slice p5 n5 c5],rcp.Rc.v r,zI f])∧R ls o' r f∧RowW w' p m ls∧(∀ x,p=some x→w.heap.size≤x.block)∧m≤cp∧m≤100000∧ora.RowP w' p5 n5 o'∧(p5=none→c5=0)∧n5≤c5∧(0<n5→∀ y,p5=some y→w.heap.size≤y.block∨(0<no∧ao=some y))∧Below w.heap.size w w'
theorem rowW_updK {w W:World} {g:Nat} {cs:Array Value} {T:TypeId} {p:Option Addr} {n:Nat} {l:List Wr} (h:RowW w p n l) (hU:Upd w W g cs T) (hg:0<n→∀ y,p=some y→y.block≠g):RowW W p n l:=by
 refine ⟨h.1,?_⟩;rcases h.2 with h0 | ⟨b,off,rfl,hc⟩
 ·exact .inl h0
 ·refine .inr ⟨b,off,rfl,fun i hi=>?_⟩;have hne:b≠g:=hg (by omega) _ rfl;rw [hU.cell _ hne rfl,hU.cell _ hne rfl];exact hc i hi
theorem rowW_ltK {w:World} {p:Option Addr} {n:Nat} {l:List Wr} (h:RowW w p n l):0<n→∀ y,p=some y→y.block<w.heap.size:=fun hn y hy=>by
 rcases h.2 with h0 | ⟨b,off,rfl,hc⟩
 ·omega
 ·cases hy;exact World.block_lt_of_cell? w _ (hc 0 hn).1
theorem rowP_ltK {w:World} {p:Option Addr} {n:Nat} {l:List Pr} (h:ora.RowP w p n l):0<n→∀ y,p=some y→y.block<w.heap.size:=fun hn y hy=>by
 obtain ⟨b,off,h8,l8,_⟩:=h.at hn;rw [h8] at hy;cases hy;exact l8
theorem rowP_updK {w W:World} {g:Nat} {cs:Array Value} {T:TypeId} {p:Option Addr} {n:Nat} {l:List Pr} (h:ora.RowP w p n l) (hU:Upd w W g cs T) (hg:0<n→∀ y,p=some y→y.block≠g):ora.RowP W p n l:=by
 refine ⟨h.1,?_⟩;rcases h.2 with h0 | ⟨b,off,rfl,hc⟩
 ·exact .inl h0
 ·refine .inr ⟨b,off,rfl,fun i hi=>?_⟩;have hne:b≠g:=hg (by omega) _ rfl;obtain ⟨h0,h1,h2,h3⟩:=hc i hi;exact ⟨by rw [hU.cell _ hne rfl];exact h0,by rw [hU.cell _ hne rfl];exact h1,by rw [hU.cell _ hne rfl];exact h2,by rw [hU.cell _ hne rfl];exact h3⟩
open disk (RepIs AppIs May repD lenAt appW)
open book (EMay evL evOf EncIs DecIs BookIs FirstAt NoneAt Tells billOf soldOf StepIs HapIs)
open acc (SellIs GrantIs RekeyIs OweIs)
open ora (IssueIs)
open cell (wrt)
theorem sell_ev {a:Ac} {t:Tm} {te mo:Int} {b:Ac} {l:Bi} {me tg:Int} (h:SellIs a t te mo b l 0) (ha:a.me=me) (ht:0≤tg∧tg≤65535):EMay (tokE 2 me mo l tg)∧l.te=te:=by
 rcases h with ⟨h,rfl,rfl⟩ | ⟨_,_,h,_⟩ | ⟨_,_,_,h,_⟩ | ⟨hr,ht2,hn,_,u,hu,rfl,rfl⟩
 ·rcases h with ⟨_,h⟩ | ⟨_,h1,h2⟩ | ⟨_,_,_,h⟩
  ·cases h
  ·exact absurd (h2.ok.1 rfl) h1
  ·exact absurd rfl h.ne
 ·cases h
 ·cases h
 ·obtain ⟨⟨p1,p2⟩,⟨q1,q2⟩,r1⟩:=acc.rest_bd hr ht2.1.1 ht2.1.2;have hbo:=(acc.rolled_may hr.1 hr.2.2).2.2.2.2.2.1;have hu0:u≠0:=fun e=>ht2.2.2 (by rw [← e];exact hu);have hu1:1≤u:=by have:=hu.1.1;omega
  obtain ⟨c0,c1,c2,c3⟩:=acc.most_cost hr.2.1.1 hbo.1 hu hu1;refine ⟨⟨by rw [← ha];exact hr.1.2.1,.inr (.inr ⟨⟨by show (2:Int)≤2;omega,by show (2:Int)≤4;omega⟩,⟨hr.1.2.2.2.1.1,hn⟩,ht,⟨rfl,rfl⟩,.inr ⟨by show (2:Int)≠4;omega,hr.2.2.1,⟨hu1,c3⟩,.inr ⟨by show (2:Int)≠3;omega,ht2.1,?_⟩⟩⟩)⟩,rfl⟩;show (0≤acc.paid a t te mo∧acc.paid a t te mo≤te)∧(0≤acc.fee t te∧acc.fee t te≤te)∧(0≤tar.cost t.ts (acc.rolled a mo).bo ((acc.rolled a mo).bo+u)∧tar.cost t.ts (acc.rolled a mo).bo ((acc.rolled a mo).bo+u)≤te)∧(0≤acc.rest a t te mo - tar.cost t.ts (acc.rolled a mo).bo ((acc.rolled a mo).bo+u)∧acc.rest a t te mo - tar.cost t.ts (acc.rolled a mo).bo ((acc.rolled a mo).bo+u)≤te)∧acc.paid a t te mo+acc.fee t te+tar.cost t.ts (acc.rolled a mo).bo ((acc.rolled a mo).bo+u)+(acc.rest a t te mo - tar.cost t.ts (acc.rolled a mo).bo ((acc.rolled a mo).bo+u))=te;generalize tar.cost t.ts (acc.rolled a mo).bo ((acc.rolled a mo).bo+u)=C at *;generalize acc.rest a t te mo=R at *;generalize acc.paid a t te mo=P at *;generalize acc.fee t te=F at *;omega
theorem grant_ev {a:Ac} {t:Tm} {mo:Int} {b:Ac} {l:Bi} {me tg:Int} (h:GrantIs a t mo b l 0) (ha:a.me=me) (ht:0≤tg∧tg≤65535):EMay (tokE 3 me mo l tg):=by
 rcases h with ⟨h,rfl,rfl⟩ | ⟨_,_,h,_⟩ | ⟨_,_,_,h,_⟩ | ⟨_,_,_,_,h,_⟩ | ⟨hr,hal,_,hn,_,rfl,rfl⟩
 ·rcases h with ⟨_,h⟩ | ⟨_,h1,h2⟩ | ⟨_,_,_,h⟩
  ·cases h
  ·exact absurd (h2.ok.1 rfl) h1
  ·exact absurd rfl h.ne
 ·cases h
 ·cases h
 ·cases h
 ·have h2:=hr.2.1.2.2.2.2;exact ⟨by rw [← ha];exact hr.1.2.1,.inr (.inr ⟨⟨by show (2:Int)≤3;omega,by show (3:Int)≤4;omega⟩,⟨hr.1.2.2.2.1.1,hn⟩,ht,⟨rfl,rfl⟩,.inr ⟨by show (3:Int)≠4;omega,hr.2.2.1,⟨by show 1≤t.al;have:=h2.1;omega,h2.2⟩,.inl ⟨rfl,rfl,rfl,rfl,rfl,rfl⟩⟩⟩)⟩
theorem rekey_ev {a b:Ac} {l:Bi} {me tg:Int} (h:RekeyIs a b l 0) (ha:a.me=me) (ht:0≤tg∧tg≤65535):EMay (tokE 4 me 0 l tg):=by
 rcases h with ⟨_,_,_,h⟩ | ⟨_,_,_,_,h⟩ | ⟨_,_,_,_,_,h⟩ | ⟨hr,_,hn,rfl,rfl,_⟩
 ·cases h
 ·cases h
 ·cases h
 ·exact ⟨by rw [← ha];exact hr.2.1,.inr (.inr ⟨⟨by show (2:Int)≤4;omega,by show (4:Int)≤4;omega⟩,⟨hr.2.2.2.1.1,hn⟩,ht,⟨rfl,rfl⟩,.inl ⟨rfl,rfl,rfl,rfl,rfl,rfl,rfl,rfl⟩⟩)⟩
theorem tag_bd {l ls:List Pr} {m r b d x:Int} (h:IssueIs l m r b d ls x 0):0≤x∧x≤65535:=by
 rcases h with ⟨_,_,_,h⟩ | ⟨_,_,_,_,h⟩ | ⟨hm,hp,⟨i,hi,rfl⟩,_,_⟩ | ⟨_,_,_,_,_,_,h⟩ | ⟨_,hp,_,_,_,rfl,_⟩
 ·cases h
 ·cases h
 ·exact (hm.each i hi.lt).1.2.2.2
 ·cases h
 ·exact hp.2.2.2
def Asked (kd mo:Int):Prop:=kd=2∨kd=3∨(kd=4∧mo=0)
theorem tells_ev {kd:Int} {t:Tm} {c:Cm} {me te mo:Int} {b:Ac} {l:Bi} {tg:Int} (hk:Asked kd mo) (h:Tells t c (askE kd me te mo) b l 0) (ha:c.a.me=me) (ht:0≤tg∧tg≤65535):EMay (tokE kd me mo l tg)∧Tells t c (tokE kd me mo l tg) b l 0:=by
 rcases h with ⟨e,h⟩ | ⟨e,h⟩ | ⟨e,h⟩
 ·have e:kd=2:=e;subst e;obtain ⟨h1,h2⟩:=sell_ev h ha ht;refine ⟨h1,.inl ⟨rfl,?_⟩⟩;show SellIs c.a t l.te mo b l 0;rw [h2];exact h
 ·have e:kd=3:=e;subst e;exact ⟨grant_ev h ha ht,.inr (.inl ⟨rfl,h⟩)⟩
 ·have e:kd=4:=e;subst e;have hm:mo=0:=by rcases hk with k | k | k;cases k;cases k;exact k.2
  subst hm;exact ⟨rekey_ev h ha ht,.inr (.inr ⟨rfl,h⟩)⟩
theorem tok_step {kd:Int} {t:Tm} {c:List Int} {o:List Pr} {me te mo dr:Int} {ls:List Wr} {o':List Pr} {r:Rc} {bk:List Cm} (hk:Asked kd mo) (hl:LoadIs t c bk 0) (h:TokIs kd t c o me te mo dr ls o' r 0) :
  ∃ k b l tg,FirstAt bk me k∧Tells t (bk.getD k cm0) (tokE kd me mo l tg) b l 0∧IssueIs o me (bk.getD k cm0).a.rv ((tokB kd (bk.getD k cm0).a.rv l 0).body:Int) dr o' tg 0∧EMay (tokE kd me mo l tg) ∧
   StepIs t bk (tokE kd me mo l tg) (bk.set k ⟨b,(bk.getD k cm0).so++[soldOf (bk.getD k cm0) (tokE kd me mo l tg)]⟩) 0∧KeepIs c (tokE kd me mo l tg) ls 0∧r=recB kd (bk.getD k cm0).a.rv me l tg:=by
 obtain ⟨bk',g,hl',h⟩:=h;obtain ⟨rfl,rfl⟩:=hl'.one hl;rcases h with ⟨p,_⟩ | ⟨_,_,_,_,_,q⟩ | ⟨_,k,b,l,x,hf,ht,⟨p,_,_,_,q⟩ | ⟨rfl,o2,tg,g2,hi,⟨p,_,_,_,q⟩ | ⟨rfl,l2,g3,hke,⟨p,_,_,_,q⟩ | ⟨rfl,rfl,rfl,rfl,_⟩⟩⟩⟩
 ·exact absurd rfl p
 ·cases q
 ·exact absurd q.symm p
 ·exact absurd q.symm p
 ·exact absurd q.symm p
 ·obtain ⟨h1,h2⟩:=tells_ev hk ht hf.2.1 (tag_bd hi);refine ⟨k,b,l,tg,hf,h2,hi,h1,?_,hke,rfl⟩;have hne1:(tokE kd me mo l tg).kd≠1:=by show kd≠1;rcases hk with k | k | k <;> omega
  have hne5:(tokE kd me mo l tg).kd≠5:=by show kd≠5;rcases hk with k | k | k <;> omega
  exact .inr (.inr (.inr (.inr ⟨h1,hne1,k,_,hf,.inr ⟨hne5,b,l,0,h2,.inr (.inr ⟨rfl,rfl,rfl,rfl⟩)⟩,fun _=>rfl⟩)))
theorem tok_no {kd:Int} {t:Tm} {c:List Int} {o:List Pr} {me te mo dr:Int} {ls:List Wr} {o':List Pr} {r:Rc} {f:Int} (h:TokIs kd t c o me te mo dr ls o' r f) (hf:f≠0):ls=[]∧o'=[]∧r=rc0:=by
 obtain ⟨bk,g,_,⟨_,a,b,d,_⟩ | ⟨_,_,a,b,d,_⟩ | ⟨_,k,b,l,x,_,_,⟨_,a,e,d,_⟩ | ⟨_,o2,tg,g2,_,⟨_,a,e,d,_⟩ | ⟨_,l2,g3,_,⟨_,a,e,d,_⟩ | ⟨_,_,_,_,e⟩⟩⟩⟩⟩:=h
 ·exact ⟨a,b,d⟩
 ·exact ⟨a,b,d⟩
 ·exact ⟨a,e,d⟩
 ·exact ⟨a,e,d⟩
 ·exact ⟨a,e,d⟩
 ·exact absurd e hf
theorem cha_step {t:Tm} {c:List Int} {me ow bp:Int} {ls:List Wr} {bk:List Cm} (hl:LoadIs t c bk 0) (h:ChaIs t c me ow bp ls 0) :
  ∃ k b,FirstAt bk me k∧EMay (chaE me ow bp)∧StepIs t bk (chaE me ow bp) (bk.set k ⟨b,(bk.getD k cm0).so⟩) 0∧KeepIs c (chaE me ow bp) ls 0:=by
 obtain ⟨bk',g,hl',h⟩:=h;obtain ⟨rfl,rfl⟩:=hl'.one hl;rcases h with ⟨p,_⟩ | ⟨_,_,_,q⟩ | ⟨_,k,b,x,hf,ho,⟨p,_,q⟩ | ⟨rfl,hke⟩⟩
 ·exact absurd rfl p
 ·cases q
 ·exact absurd q.symm p
 ·have hm:(0≤me∧me≤49)∧((1≤ow∧ow≤1000000000)∧0≤bp∧bp≤10000):=by
   rcases ho with ⟨_,_,q⟩ | ⟨_,_,_,q⟩ | ⟨_,_,_,_,q⟩ | ⟨ha,hq,_,_,_⟩
   ·cases q
   ·cases q
   ·cases q
   ·exact ⟨by rw [← hf.2.1];exact ha.2.1,hq⟩
  have hev:EMay (chaE me ow bp):=⟨hm.1,.inr (.inl ⟨rfl,rfl,rfl,rfl,rfl,rfl,rfl,rfl,rfl,rfl,hm.2⟩)⟩
  exact ⟨k,b,hf,hev,.inr (.inr (.inr (.inr ⟨hev,by show (5:Int)≠1;omega,k,_,hf,.inl ⟨rfl,b,ho,fun _=>rfl⟩,fun _=>rfl⟩))),hke⟩
structure Shop (t:Tm) (c:List Int) (n:Nat) (l:List Ev) (bk:List Cm):Prop where
 len:c.length=n
 tape:disk.Tape c (l.map evL) (14*l.length)
 may:∀ v∈l,EMay v
 book:BookIs t l bk 0 0
theorem Shop.load {t:Tm} {c:List Int} {n:Nat} {l:List Ev} {bk:List Cm} (h:Shop t c n l bk):LoadIs t c bk 0:=load_tape h.tape h.may h.book
theorem Shop.next {t:Tm} {c:List Int} {n:Nat} {l:List Ev} {bk bk':List Cm} {v:Ev} {ls:List Wr} (h:Shop t c n l bk) (hn:l.length<120) (hf:14*l.length+13<n) (hv:EMay v) (hs:StepIs t bk v bk' 0) (hk:KeepIs c v ls 0):ls=appW c (14*l.length) (evL v)∧Shop t (wrt c ls) n (l++[v]) bk'∧∀ k,k<ls.length→Shop t (wrt c (ls.take k)) n l bk:=by
 obtain ⟨rfl,_⟩:=keep_tape h.tape h.may hv hn (by rw [h.len];exact hf) hk;have hw:∀ (m:List Wr),(wrt c m).length=n:=fun m=>by rw [cell.wrt_len];exact h.len
 refine ⟨rfl,⟨hw _,?_,?_,book_next h.book hn hs⟩,fun k hk2=>⟨hw _,tape_cut h.tape (by rw [h.len];exact hf) hk2,h.may,h.book⟩⟩
 ·have:=tape_next (v:=v) h.tape (by rw [h.len];exact hf);rw [List.length_append];rw [show 14*(l.length+[v].length)=14*l.length+14 by simp;omega];exact this
 ·intro x hx;rcases List.mem_append.1 hx with h2 | h2
  ·exact h.may x h2
  ·rw [List.mem_singleton.1 h2];exact hv
def Three (bk:List Cm):Prop:=bk.length=3∧∀ i,i<3→(bk.getD i cm0).a.me=(i:Int)
theorem three_set {t:Tm} {bk:List Cm} {v:Ev} {k:Nat} {x:Cm} (h:Three bk) (hs:StepIs t bk v (bk.set k x) 0):Three (bk.set k x):=by
 have hg:=step_grows hs;refine ⟨by rw [List.length_set];exact h.1,fun i hi=>?_⟩;rw [(hg.2 i (by rw [h.1];exact hi)).1];exact h.2 i hi
theorem app_ne (c:List Int) (e:Nat) (v:Ev):appW c e (evL v)≠[]:=fun h=>by
 have:=disk.app_len c e (evL v);rw [h,book.evL_len] at this;simp only [List.length_nil] at this;split at this <;> omega
structure Stepped (t:Tm) (c:List Int) (n:Nat) (l:List Ev) (bk:List Cm) (v:Ev) (bk':List Cm) (ls:List Wr):Prop where
 ev:EMay v
 step:StepIs t bk v bk' 0
 keep:KeepIs c v ls 0
 some:ls≠[]
 whole:Shop t (wrt c ls) n (l++[v]) bk'
 torn:∀ k,k<ls.length→Shop t (wrt c (ls.take k)) n l bk
theorem stepped {t:Tm} {c:List Int} {n:Nat} {l:List Ev} {bk bk':List Cm} {v:Ev} {ls:List Wr} (h:Shop t c n l bk) (hn:l.length<120) (hf:14*l.length+13<n) (hv:EMay v) (hs:StepIs t bk v bk' 0) (hk:KeepIs c v ls 0):Stepped t c n l bk v bk' ls:=by
 obtain ⟨e,h1,h2⟩:=h.next hn hf hv hs hk;exact ⟨hv,hs,hk,by rw [e];exact app_ne _ _ _,h1,h2⟩
theorem serve_step {t:Tm} {c:List Int} {n:Nat} {l:List Ev} {bk:List Cm} {o:List Pr} {x:Od} {ls:List Wr} {o':List Pr} {r:Rc} (h:Shop t c n l bk) (h3:Three bk) (hn:l.length<120) (hf:14*l.length+13<n) (hs:ServedIs t c o x ls o' r 0):∃ v bk',Stepped t c n l bk v bk' ls∧Three bk':=by
 rcases hs with ⟨_,hc,_,_⟩ | ⟨_,hc⟩ | ⟨_,hc⟩ | ⟨_,hc⟩
 ·obtain ⟨k,b,_,hv,hst,hke⟩:=cha_step h.load hc;exact ⟨_,_,stepped h hn hf hv hst hke,three_set h3 hst⟩
 ·obtain ⟨k,b,l2,tg,_,_,_,hv,hst,hke,_⟩:=tok_step (.inr (.inl rfl)) h.load hc;exact ⟨_,_,stepped h hn hf hv hst hke,three_set h3 hst⟩
 ·obtain ⟨k,b,l2,tg,_,_,_,hv,hst,hke,_⟩:=tok_step (.inr (.inr ⟨rfl,rfl⟩)) h.load hc;exact ⟨_,_,stepped h hn hf hv hst hke,three_set h3 hst⟩
 ·obtain ⟨k,b,l2,tg,_,_,_,hv,hst,hke,_⟩:=tok_step (.inl rfl) h.load hc;exact ⟨_,_,stepped h hn hf hv hst hke,three_set h3 hst⟩
theorem serve_no {t:Tm} {c:List Int} {o:List Pr} {x:Od} {ls:List Wr} {o':List Pr} {r:Rc} {f:Int} (hs:ServedIs t c o x ls o' r f) (hf:f≠0):ls=[]∧r=rc0:=by
 rcases hs with ⟨_,⟨bk,g,_,⟨_,a,_⟩ | ⟨_,_,a,_⟩ | ⟨_,k,b,y,_,_,⟨_,a,_⟩ | ⟨_,a⟩⟩⟩,_,e⟩ | ⟨_,hc⟩ | ⟨_,hc⟩ | ⟨_,hc⟩
 ·exact ⟨a,e⟩
 ·exact ⟨a,e⟩
 ·exact ⟨a,e⟩
 ·exact ⟨a.no hf,e⟩
 ·exact ⟨(tok_no hc hf).1,(tok_no hc hf).2.2⟩
 ·exact ⟨(tok_no hc hf).1,(tok_no hc hf).2.2⟩
 ·exact ⟨(tok_no hc hf).1,(tok_no hc hf).2.2⟩
theorem shop_blank {t:Tm} (ht:acc.TRight t) {n:Nat} (h0:1≤n) (h1:n≤2048):Shop t (List.replicate n 0) n [] []:=
 ⟨List.length_replicate,disk.Tape.blank h0 h1,(fun v hv=>by cases hv),.inr (.inr ⟨ht,by simp,0,fun _=>[],rfl,(fun i hi=>absurd hi (Nat.not_lt_zero _)),.inl ⟨rfl,rfl,rfl,rfl⟩⟩)⟩
def Regs (bk:List Cm) (k:Nat):Prop:=bk.length=k∧∀ i,i<k→(bk.getD i cm0).a.me=(i:Int)
theorem Regs.none {bk:List Cm} {k:Nat} (h:Regs bk k):NoneAt bk (k:Int):=fun j hj=>by
 rw [h.1] at hj;rw [h.2 j hj];omega
theorem Regs.next {bk:List Cm} {k:Nat} (h:Regs bk k) (so:List So):Regs (bk++[⟨⟨(k:Int),0,1,0,0,-1,[]⟩,so⟩]) (k+1):=by
 refine ⟨by rw [List.length_append,h.1];rfl,fun i hi=>?_⟩;by_cases e:i<bk.length
 ·rw [getD_appC _ _ _ e];exact h.2 i (by rw [← h.1];exact e)
 ·obtain rfl:i=bk.length:=by have:=h.1;omega
  have:(bk++[(⟨⟨(k:Int),0,1,0,0,-1,[]⟩,so⟩:Cm)]).getD bk.length cm0=⟨⟨(k:Int),0,1,0,0,-1,[]⟩,so⟩:=by simp [List.getD]
  rw [this];show (k:Int)=_;rw [h.1]
theorem reg_yes {t:Tm} {c:List Int} {n:Nat} {l:List Ev} {bk:List Cm} {k:Nat} {ls:List Wr} {f:Int} (h:Shop t c n l bk) (hr:Regs bk k) (hk:k<50) (hn:l.length<120) (hf:14*l.length+13<n) (hs:RegIs t c (k:Int) ls f):f=0∧Stepped t c n l bk (regE (k:Int)) (bk++[⟨⟨(k:Int),0,1,0,0,-1,[]⟩,[]⟩]) ls:=by
 obtain ⟨bk',g,hl,hh⟩:=hs;obtain ⟨rfl,rfl⟩:=hl.one h.load;rcases hh with ⟨p,_⟩ | ⟨_,p,_⟩ | ⟨_,_,p,_⟩ | ⟨_,hm,hno,hke⟩
 ·exact absurd rfl p
 ·exact absurd ⟨by omega,by omega⟩ p
 ·exact absurd hr.none p
 ·have hev:EMay (regE (k:Int)):=⟨hm,.inl ⟨rfl,rfl,rfl,rfl,rfl,rfl,rfl,rfl,rfl,rfl,rfl,rfl⟩⟩
  obtain ⟨_,rfl⟩:=keep_tape h.tape h.may hev hn (by rw [h.len];exact hf) hke;exact ⟨rfl,stepped h hn hf hev (.inr (.inr (.inl ⟨hev,rfl,hno,rfl,rfl⟩))) hke⟩
end vnd
namespace disk
open Go.RowKit cell
theorem blank_cap (n:Nat) (w:World) (h1:1≤n) (h2:n≤2048) :
  Calls Tryz.prog 32 #[zI (n:Int)] w fun e w'=>GaveC w (List.replicate n 0) 0 e w':=by
 have HM:Hid (∀ W,Calls Tryz.prog 46 #[zI (n:Int)] W fun e w'=>e = .returned (.bool true)∧w'=W):=fun W=>may_yes _ W (by omega) (by omega);have hmk:∀ W:World,(Instr.makeSlice 25 (zI (n:Int)) (zI (n:Int))).run Tryz.prog W = .ok (.slice (some ⟨W.heap.size,0,none⟩) n n) (W.alloc (.cells (arr (List.replicate n 0)) 99)):=make_u32 n (by omega);have HL:Hid ((List.replicate n (0:Int)).length=n):=List.length_replicate;generalize List.replicate n (0:Int)=zs at *;go_enter Tryz.func32,Tryz.ntmps32;go_wp2_with fail;refine (HM.o _).mono ?_;rintro e w1 ⟨rfl,rfl⟩;go_wp2_with fail;go_ret2;exact GaveC.mk (Blk.rowU (Blk.new _ _ _) HL.o) (fun h=>by cases h) (Nat.le_refl _) ((Below.refl _ _).alloc (Nat.le_refl _) _)
end disk
namespace book
open Go.RowKit
theorem bleft2 (kd me mo id te de fe pr ch un tg ow bp:Int) (w:World) (q2:(kd == 2)=true):Calls Tryz.prog 111 #[.agg #[zI kd,zI me,zI mo,zI id,zI te,zI de,zI fe,zI pr,zI ch,zI un,zI tg,zI ow,zI bp]] w fun e w'=>e = .returned (.agg #[zI 0,zI 0,zI 0,zI 0,zI 0,zI 0,zI 0,zI 0,zI 0,zI 0,zI 0,zI ow,zI bp])∧Below w.heap.size w w':=by
 go_enter Tryz.func111,Tryz.ntmps111;go_wp2;exact bodyPost_ret (v:= .agg #[zI 0,zI 0,zI 0,zI 0,zI 0,zI 0,zI 0,zI 0,zI 0,zI 0,zI 0,zI ow,zI bp]) (by simp [results,Tryz.results111,go_sem]) rfl ⟨rfl,bki.bel2 _ _ _⟩
theorem bleft3 (kd me mo id te de fe pr ch un tg ow bp:Int) (w:World) (q2:(kd == 2)=false) (q3:(kd == 3)=true):Calls Tryz.prog 111 #[.agg #[zI kd,zI me,zI mo,zI id,zI te,zI de,zI fe,zI pr,zI ch,zI un,zI tg,zI ow,zI bp]] w fun e w'=>e = .returned (.agg #[zI 0,zI 0,zI 0,zI 0,zI te,zI de,zI fe,zI pr,zI ch,zI 0,zI 0,zI ow,zI bp])∧Below w.heap.size w w':=by
 go_enter Tryz.func111,Tryz.ntmps111;go_wp2;exact bodyPost_ret (v:= .agg #[zI 0,zI 0,zI 0,zI 0,zI te,zI de,zI fe,zI pr,zI ch,zI 0,zI 0,zI ow,zI bp]) (by simp [results,Tryz.results111,go_sem]) rfl ⟨rfl,bki.bel2 _ _ _⟩
theorem bleft4 (kd me mo id te de fe pr ch un tg ow bp:Int) (w:World) (q2:(kd == 2)=false) (q3:(kd == 3)=false) (q4:(kd == 4)=true):Calls Tryz.prog 111 #[.agg #[zI kd,zI me,zI mo,zI id,zI te,zI de,zI fe,zI pr,zI ch,zI un,zI tg,zI ow,zI bp]] w fun e w'=>e = .returned (.agg #[zI 0,zI 0,zI mo,zI 0,zI te,zI de,zI fe,zI pr,zI ch,zI un,zI 0,zI ow,zI bp])∧Below w.heap.size w w':=by
 go_enter Tryz.func111,Tryz.ntmps111;go_wp2;exact bodyPost_ret (v:= .agg #[zI 0,zI 0,zI mo,zI 0,zI te,zI de,zI fe,zI pr,zI ch,zI un,zI 0,zI ow,zI bp]) (by simp [results,Tryz.results111,go_sem]) rfl ⟨rfl,bki.bel2 _ _ _⟩
theorem bleft5 (kd me mo id te de fe pr ch un tg ow bp:Int) (w:World) (q2:(kd == 2)=false) (q3:(kd == 3)=false) (q4:(kd == 4)=false) (q5:(kd == 5)=true):Calls Tryz.prog 111 #[.agg #[zI kd,zI me,zI mo,zI id,zI te,zI de,zI fe,zI pr,zI ch,zI un,zI tg,zI ow,zI bp]] w fun e w'=>e = .returned (.agg #[zI 0,zI 0,zI mo,zI id,zI te,zI de,zI fe,zI pr,zI ch,zI un,zI tg,zI 0,zI 0])∧Below w.heap.size w w':=by
 go_enter Tryz.func111,Tryz.ntmps111;go_wp2;exact bodyPost_ret (v:= .agg #[zI 0,zI 0,zI mo,zI id,zI te,zI de,zI fe,zI pr,zI ch,zI un,zI tg,zI 0,zI 0]) (by simp [results,Tryz.results111,go_sem]) rfl ⟨rfl,bki.bel2 _ _ _⟩
theorem bleft0 (kd me mo id te de fe pr ch un tg ow bp:Int) (w:World) (q2:(kd == 2)=false) (q3:(kd == 3)=false) (q4:(kd == 4)=false) (q5:(kd == 5)=false):Calls Tryz.prog 111 #[.agg #[zI kd,zI me,zI mo,zI id,zI te,zI de,zI fe,zI pr,zI ch,zI un,zI tg,zI ow,zI bp]] w fun e w'=>e = .returned (.agg #[zI 0,zI 0,zI mo,zI id,zI te,zI de,zI fe,zI pr,zI ch,zI un,zI tg,zI ow,zI bp])∧Below w.heap.size w w':=by
 go_enter Tryz.func111,Tryz.ntmps111;go_wp2;exact bodyPost_ret (v:= .agg #[zI 0,zI 0,zI mo,zI id,zI te,zI de,zI fe,zI pr,zI ch,zI un,zI tg,zI ow,zI bp]) (by simp [results,Tryz.results111,go_sem]) rfl ⟨rfl,bki.bel2 _ _ _⟩
theorem bleft (v:Ev) (w:World):Calls Tryz.prog 111 #[v.v] w fun e w'=>e = .returned (leftE v).v∧Below w.heap.size w w':=by
 obtain ⟨kd,me,mo,id,te,de,fe,pr,ch,un,tg,ow,bp⟩:=v;unfold leftE Ev.v;simp only;by_cases k2:kd=2
 ·rw [if_pos k2];exact bleft2 kd me mo id te de fe pr ch un tg ow bp w (by simpa using k2)
 rw [if_neg k2];by_cases k3:kd=3
 ·rw [if_pos k3];exact bleft3 kd me mo id te de fe pr ch un tg ow bp w (by simpa using k2) (by simpa using k3)
 rw [if_neg k3];by_cases k4:kd=4
 ·rw [if_pos k4];exact bleft4 kd me mo id te de fe pr ch un tg ow bp w (by simpa using k2) (by simpa using k3) (by simpa using k4)
 rw [if_neg k4];by_cases k5:kd=5
 ·rw [if_pos k5];exact bleft5 kd me mo id te de fe pr ch un tg ow bp w (by simpa using k2) (by simpa using k3) (by simpa using k4) (by simpa using k5)
 rw [if_neg k5];exact bleft0 kd me mo id te de fe pr ch un tg ow bp w (by simpa using k2) (by simpa using k3) (by simpa using k4) (by simpa using k5)
end book
namespace vnd
open disk (RepIs AppIs)
open book (Ev ev0 EMay evL evOf EncIs DecIs Cm cm0 So so0 BookIs Sees ECame FirstAt NoneAt)
open acc (Ac Tm Bi TCame ACame)
open cell (Wr RowU)
open Go.RowKit
def NoTwo (w:World) (g:Nat):Prop:=∀ o x y,w.cell? ⟨g,o,none⟩=some (zI x)→w.cell? ⟨g,o+1,none⟩=some (zI y)→False
theorem shop_odd {w:World} {g:Nat} {T:TypeId} {a1 b1:Option Addr} {a2 a3 b2 b3:Nat} {z:Value} (hB:Blk w g #[.slice a1 a2 a3,.slice b1 b2 b3,z] T):NoTwo w g:=by
 intro o x y h1 h2
 match o,h1,h2 with
 | 0,h1,_=>rw [hB.cell 0] at h1;cases h1
 | 1,h1,_=>rw [hB.cell 1] at h1;cases h1
 | o+2,_,h2=>rw [hB.cell (o+2+1)] at h2;simp at h2
theorem rowC_far {w W:World} {g:Nat} {v':Array Value} {T':TypeId} {p:Option Addr} {n:Nat} {xs:List book.Cu} (h:book.RowC w p n xs) (hg:NoTwo w g) (hU:Upd w W g v' T'):book.RowC W p n xs:=by
 refine ⟨h.1,?_⟩;rcases h.2 with h0 | ⟨b,off,rfl,lb,hc⟩
 ·exact .inl h0
 ·rcases Nat.eq_zero_or_pos n with h0 | h0
  ·exact .inl h0
  ·have hne:b≠g:=fun e=>by
    subst e;have h1:=hc 0 0 h0 (by decide);have h2:=hc 0 1 h0 (by decide);exact hg (off+0*8+0) (xs.getD 0 book.cu0).me (xs.getD 0 book.cu0).rv (by rw [h1];rfl) (by rw [show off+0*8+0+1=off+0*8+1 by omega,h2];rfl)
   exact .inr ⟨b,off,rfl,by rw [hU.size];exact lb,fun i j hi hj=>by rw [hU.cell _ hne rfl];exact hc i j hi hj⟩
theorem rowS_far {w W:World} {g:Nat} {v':Array Value} {T':TypeId} {p:Option Addr} {n:Nat} {l:List So} (h:book.RowS w p n l) (hg:NoTwo w g) (hU:Upd w W g v' T'):book.RowS W p n l:=by
 refine ⟨h.1,?_⟩;rcases h.2 with h0 | ⟨b,off,rfl,lb,hc⟩
 ·exact .inl h0
 ·rcases Nat.eq_zero_or_pos n with h0 | h0
  ·exact .inl h0
  ·have hne:b≠g:=fun e=>by
    subst e;have h1:=hc 0 0 h0 (by decide);have h2:=hc 0 1 h0 (by decide);exact hg (off+0*5+0) (l.getD 0 so0).id (l.getD 0 so0).cl (by rw [h1];rfl) (by rw [show off+0*5+0+1=off+0*5+1 by omega,h2];rfl)
   exact .inr ⟨b,off,rfl,by rw [hU.size];exact lb,fun i j hi hj=>by rw [hU.cell _ hne rfl];exact hc i j hi hj⟩
theorem came_far {w W:World} {g:Nat} {v':Array Value} {T':TypeId} {p:Option Addr} {n cap:Nat} {l:List tar.Du} (h:tar.Came w p n cap l) (hg:NoTwo w g) (hU:Upd w W g v' T'):tar.Came W p n cap l:=
 acc.came_upd h hU fun hn x hx e=>by
  obtain ⟨b,off,hp,lb,hc⟩:=h.row.at hn;rw [hp] at hx;cases hx;have e2:b=g:=e;subst e2;exact hg _ _ _ (hc 0 hn).1 (hc 0 hn).2
theorem sees_far {w W:World} {g:Nat} {v':Array Value} {T':TypeId} {p:Option Addr} {n:Nat} {xs:List book.Cu} {bk:List Cm} (h:Sees w p n xs bk) (hg:NoTwo w g) (hU:Upd w W g v' T'):Sees W p n xs bk:=
 ⟨rowC_far h.row hg hU,h.len,h.num,fun i hi=>came_far (h.ds i hi) hg hU,fun i hi=>rowS_far (h.so i hi) hg hU⟩
theorem one_odd {w:World} {g:Nat} {T:TypeId} {z:Value} (hB:Blk w g #[z] T):NoTwo w g:=by
 intro o x y h1 h2;rw [hB.cell (o+1)] at h2;simp at h2
end vnd
section
open Go.RowKit
theorem wp_letOpN {P:Program} {o:Oper} {a:Act} {w:World} {K:Act→World→Prop} {Q:Exit→Act→World→Prop} (ty:TypeId) (x y:Operand) (ho:o.op = .store ty x y)
  (g off:Nat) (hx:a.eval x = .pointer (some ⟨g,off,none⟩)) (v:Value) (hy:a.eval y=v) (cells:Array Value) (hv:v.cells=cells) (hi:(P.info? ty).map (·.size)=some cells.size) (h1:cells.all (·.oneCell')=true)
  (cs:Array Value) (t:TypeId) (hB:Blk w g cs t) (hin:off+cells.size≤cs.size) (new:Array Value) (hnew:putAll cs off cells.toList=new) (hd:o.dst=none)
  (h:∀ W,Upd w W g new t→K a W):o.wp P a w K Q:=by
 have hs:=run_storeVar_let (P:=P) (w:=w) (g:=g) (off:=off) (ty:=ty) (t:=t) (v:=v) (cells:=cells) (cs:=cs) hv hi h1 hB hin;have hu:=upd_cells g t cells.toList off w cs hB;rw [hnew] at hu;unfold Oper.wp execOp;simp only [ho,hx,hy,Instr.storeAt,Instr.sureAddr,Sem.run_bind,Sem.run_pure,Result.andThen_ok,hs];have:=h _ hu;have e:a.put o.dst undef=a:=by rw [hd];rfl
 rw [← e] at this;exact this
theorem wp_callOpP {P:Program} {o:Oper} {a:Act} {w:World} {f:FuncId} {args:Array Value} {R:Ending→World→Prop} {K:Act→World→Prop} {Q:Exit→Act→World→Prop} (d:Nat) (hd:o.dst=some d) (hrun:(execOp a.eval o).run P w = .ok (.enter f args) w) (hc:Calls P f args w R)
  (h:∀ e w',R e w'→(∃ v,e = .returned v∧K (a.put (some d) v) w')∨∃ c,e = .panicked c∧Q (.panic c) a w'):o.wp P a w K Q:=by
 rw [← hd] at h;unfold Oper.wp;rw [hrun,Oper.upon_enter];refine hc.mono fun e w' hr=>?_;rcases h e w' hr with ⟨v,rfl,hk⟩ | ⟨c,rfl,hk⟩
 ·exact hk
 ·exact hk
theorem wp_mapOp {P:Program} {o:Oper} {a:Act} {w W:World} {K:Act→World→Prop} {Q:Exit→Act→World→Prop} (ty:TypeId) (x y z:Operand) (ho:o.op = .mapUpdate ty x y z) (vx vy vz:Value) (hx:a.eval x=vx) (hy:a.eval y=vy) (hz:a.eval z=vz)
  (hr:(Instr.mapUpdate ty vx vy vz).run P w = .ok () W) (hd:o.dst=none) (h:K a W):o.wp P a w K Q:=by
 unfold Oper.wp execOp;simp only [ho,hx,hy,hz,Sem.run_bind,Sem.run_pure,Result.andThen_ok,hr];have e:a.put o.dst undef=a:=by rw [hd];rfl
 rw [← e] at h;exact h
end
namespace words
open Go.RowKit
theorem downward_any (K:Nat) (caps:Array Value) (B:Nat) (v0 v1 v2 v3:Value) (x0 x1 x2 y0 y1 y2:Int) (w:World) (h:Acc w w B v0) (hK:∀ args w,(callFunc K args).run Tryz.prog w = .ok (.enter K args) w)
  (s0:∀ w',Acc w w' B v0→Calls Tryz.prog K (#[.int .u32 x2]++caps) w' fun e w''=>e = .returned (.int .u32 y2)∧Acc w' w'' B v1)
  (s1:∀ w',Acc w w' B v1→Calls Tryz.prog K (#[.int .u32 x1]++caps) w' fun e w''=>e = .returned (.int .u32 y1)∧Acc w' w'' B v2)
  (s2:∀ w',Acc w w' B v2→Calls Tryz.prog K (#[.int .u32 x0]++caps) w' fun e w''=>e = .returned (.int .u32 y0)∧Acc w' w'' B v3) :
  Calls Tryz.prog 133 #[.agg #[.int .u32 x0,.int .u32 x1,.int .u32 x2],.func (.func K) #[] caps] w fun e w'=>e = .returned (.agg #[.int .u32 y0,.int .u32 y1,.int .u32 y2])∧Acc w w' B v3:=by
 have HS0:Hid (∀ w',Acc w w' B v0→Calls Tryz.prog K (#[.int .u32 x2]++caps) w' fun e w''=>e = .returned (.int .u32 y2)∧Acc w' w'' B v1):=s0;have HS1:Hid (∀ w',Acc w w' B v1→Calls Tryz.prog K (#[.int .u32 x1]++caps) w' fun e w''=>e = .returned (.int .u32 y1)∧Acc w' w'' B v2):=s1;have HS2:Hid (∀ w',Acc w w' B v2→Calls Tryz.prog K (#[.int .u32 x0]++caps) w' fun e w''=>e = .returned (.int .u32 y0)∧Acc w' w'' B v3):=s2;have HA:Hid (Acc w w B v0):=h;clear s0 s1 s2 h;go_enter Tryz.func133,Tryz.ntmps133;go_wp2_with fail;refine wp_loop_rounds 4 ?_;rw [rounds_succ];go_wp2_with fail;refine (HS0.o _ ((HA.o.alloc _).alloc _)).mono ?_;rintro e w1 ⟨rfl,h1⟩;have hB:=HA.o.old;have T1:Trio w1 w.heap.size (.int .u32 x0) (.int .u32 x1) (.int .u32 x2):=(trio_a _ _ _ _ _).acc h1 (by omega);have R1:Trio w1 (w.heap.size+1) (.int .u32 0) (.int .u32 0) (.int .u32 0):=(trio_b _ _ _ _ _).acc h1 (by omega);have A1:=((HA.o.alloc _).alloc _).trans h1;have c2:=T1.c2;have f2:=T1.free 2;have T1':=T1.set2 (.int .u32 y2);have d1:=T1'.c1;have HT:Hid (Trio (w1.setCell ⟨w.heap.size,2,none⟩ (.int .u32 y2)) w.heap.size (.int .u32 x0) (.int .u32 x1) (.int .u32 y2)):=T1';have HR:Hid (Trio (w1.setCell ⟨w.heap.size,2,none⟩ (.int .u32 y2)) (w.heap.size+1) (.int .u32 0) (.int .u32 0) (.int .u32 0)):=R1.other _ _ (by omega);have HA1:Hid (Acc w (w1.setCell ⟨w.heap.size,2,none⟩ (.int .u32 y2)) B v1):=A1.setNew _ _ _ (Nat.le_refl _);clear h1 T1 R1 A1 T1' HA HS0;go_wp2_with fail;rw [rounds_succ];go_wp2_with fail;refine (HS1.o _ HA1.o).mono ?_;rintro e w2 ⟨rfl,h2⟩;have T2:=HT.o.acc h2 (by omega);have R2:=HR.o.acc h2 (by omega);have A2:=HA1.o.trans h2;clear c2 f2 d1 HT HR HA1 HS1 h2;have c1:=T2.c1;have f1:=T2.free 1;have T2':=T2.set1 (.int .u32 y1);have d2:=T2'.c0;have HT:Hid (Trio (w2.setCell ⟨w.heap.size,1,none⟩ (.int .u32 y1)) w.heap.size (.int .u32 x0) (.int .u32 y1) (.int .u32 y2)):=T2';have HR:Hid (Trio (w2.setCell ⟨w.heap.size,1,none⟩ (.int .u32 y1)) (w.heap.size+1) (.int .u32 0) (.int .u32 0) (.int .u32 0)):=R2.other _ _ (by omega)
 have HA2:Hid (Acc w (w2.setCell ⟨w.heap.size,1,none⟩ (.int .u32 y1)) B v2):=A2.setNew _ _ _ (Nat.le_refl _);clear T2 R2 A2 T2';go_wp2_with fail;rw [rounds_succ];go_wp2_with fail;refine (HS2.o _ HA2.o).mono ?_;rintro e w3 ⟨rfl,h3⟩;have T3:=HT.o.acc h3 (by omega);have R3:=HR.o.acc h3 (by omega);have A3:=HA2.o.trans h3;clear c1 f1 d2 HT HR HA2 HS2 h3;have c0:=T3.c0;have f0:=T3.free 0;have T3':=T3.set0 (.int .u32 y0);have R3':=R3.other (G':=w.heap.size) 0 (.int .u32 y0) (by omega);have e0:=T3'.c0;have e1:=T3'.c1;have e2:=T3'.c2;have r0:=R3'.c0;have r1:=R3'.c1;have r2:=R3'.c2;have g0:=R3'.free 0;have g1:=R3'.free 1;have g2:=R3'.free 2;have HR3:Hid (Trio (w3.setCell ⟨w.heap.size,0,none⟩ (.int .u32 y0)) (w.heap.size+1) (.int .u32 0) (.int .u32 0) (.int .u32 0)):=R3';have HA3:Hid (Acc w (w3.setCell ⟨w.heap.size,0,none⟩ (.int .u32 y0)) B v3):=A3.setNew _ _ _ (Nat.le_refl _);clear T3 R3 A3 T3' R3';go_wp2_with fail;rw [rounds_succ];go_wp2_with fail;have RR:=((HR3.o.set0 (.int .u32 y0)).set1 (.int .u32 y1)).set2 (.int .u32 y2);have AA:=((HA3.o.setNew (w.heap.size+1) 0 (.int .u32 y0) (by omega)).setNew (w.heap.size+1) 1 (.int .u32 y1) (by omega)).setNew (w.heap.size+1) 2 (.int .u32 y2) (by omega);refine bodyPost_ret (v:= .agg #[.int .u32 y0,.int .u32 y1,.int .u32 y2]) (by simp [results,Tryz.results133,RR.c0,RR.c1,RR.c2,go_sem]) rfl ⟨rfl,AA⟩
end words
end Go.Proofs.YtnpblpbohcegoaaGreatDoor
