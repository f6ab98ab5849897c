import Derived.Test.YtnpblpbohcegoaaGreatDoorVVCut21
import Derived.Test.YtnpblpbohcegoaaGreatDoorVVCut23
import Derived.Test.YtnpblpbohcegoaaGreatDoorVVCut24
set_option linter.unusedVariables false
set_option linter.unusedSimpArgs false
set_option maxHeartbeats 4000000
set_option maxRecDepth 100000
namespace Go.Proofs.YtnpblpbohcegoaaGreatDoor
namespace vnd
open book (Ev ev0 Cm cm0 So so0 Sees)
open acc (Ac Tm Bi)
open ora (Pr)
open cell (Wr RowU RowW)
open rcp (Rc rc0)
open Go.RowKit
def KvGrant (w0:World):Prop:=∀ (W:World) (t:Tm) (pt:Option Addr) (lt ct:Nat) (a:Option Addr) (n cap:Nat) (c:List Int) (ao:Option Addr) (no ko:Nat) (o:List Pr) (me mo dr:Int),Below w0.heap.size w0 W→acc.TCame W t pt lt ct→Dk W a n cap c→ora.Came W ao no ko o→(Lit.int .i64 me).wf=true→(Lit.int .i64 mo).wf=true→(Lit.int .i64 dr).wf=true→Calls Tryz.prog 43 #[t.v pt lt ct,.slice a n cap,.agg #[.slice ao no ko],zI me,zI mo,zI dr] W fun e w'=>TokGot W (TokIs 3 t c o me 0 mo dr) e w'
theorem KvGrant.up {w0 w:World} (K:KvGrant w0) (hb:Below w0.heap.size w0 w):KvGrant w:=fun W t pt lt ct a n cap c ao no ko o me mo dr hW=>K W t pt lt ct a n cap c ao no ko o me mo dr (bel_step hb hW)
def KvRekey (w0:World):Prop:=∀ (W:World) (t:Tm) (pt:Option Addr) (lt ct:Nat) (a:Option Addr) (n cap:Nat) (c:List Int) (ao:Option Addr) (no ko:Nat) (o:List Pr) (me dr:Int),Below w0.heap.size w0 W→acc.TCame W t pt lt ct→Dk W a n cap c→ora.Came W ao no ko o→(Lit.int .i64 me).wf=true→(Lit.int .i64 dr).wf=true→Calls Tryz.prog 44 #[t.v pt lt ct,.slice a n cap,.agg #[.slice ao no ko],zI me,zI dr] W fun e w'=>TokGot W (TokIs 4 t c o me 0 0 dr) e w'
theorem KvRekey.up {w0 w:World} (K:KvRekey w0) (hb:Below w0.heap.size w0 w):KvRekey w:=fun W t pt lt ct a n cap c ao no ko o me dr hW=>K W t pt lt ct a n cap c ao no ko o me dr (bel_step hb hW)
def KvSell (w0:World):Prop:=∀ (W:World) (t:Tm) (pt:Option Addr) (lt ct:Nat) (a:Option Addr) (n cap:Nat) (c:List Int) (ao:Option Addr) (no ko:Nat) (o:List Pr) (me te mo dr:Int),Below w0.heap.size w0 W→acc.TCame W t pt lt ct→Dk W a n cap c→ora.Came W ao no ko o→(Lit.int .i64 me).wf=true→(Lit.int .i64 te).wf=true→(Lit.int .i64 mo).wf=true→(Lit.int .i64 dr).wf=true→Calls Tryz.prog 45 #[t.v pt lt ct,.slice a n cap,.agg #[.slice ao no ko],zI me,zI te,zI mo,zI dr] W fun e w'=>TokGot W (TokIs 2 t c o me te mo dr) e w'
theorem KvSell.up {w0 w:World} (K:KvSell w0) (hb:Below w0.heap.size w0 w):KvSell w:=fun W t pt lt ct a n cap c ao no ko o me te mo dr hW=>K W t pt lt ct a n cap c ao no ko o me te mo dr (bel_step hb hW)
open disk (RepIs AppIs May repD lenAt appW)
open book (EMay evL evOf EncIs DecIs BookIs FirstAt NoneAt Tells billOf soldOf StepIs HapIs)
open acc (SellIs GrantIs RekeyIs OweIs)
open ora (IssueIs)
open cell (wrt)
theorem sell_ev {a:Ac} {t:Tm} {te mo:Int} {b:Ac} {l:Bi} {me tg:Int} (h:SellIs a t te mo b l 0) (ha:a.me=me) (ht:0≤tg∧tg≤65535):EMay (tokE 2 me mo l tg)∧l.te=te:=by
 rcases h with ⟨h,rfl,rfl⟩ | ⟨_,_,h,_⟩ | ⟨_,_,_,h,_⟩ | ⟨hr,ht2,hn,_,u,hu,rfl,rfl⟩
 ·rcases h with ⟨_,h⟩ | ⟨_,h1,h2⟩ | ⟨_,_,_,h⟩
  ·cases h
  ·exact absurd (h2.ok.1 rfl) h1
  ·exact absurd rfl h.ne
 ·cases h
 ·cases h
 ·obtain ⟨⟨p1,p2⟩,⟨q1,q2⟩,r1⟩:=acc.rest_bd hr ht2.1.1 ht2.1.2;have hbo:=(acc.rolled_may hr.1 hr.2.2).2.2.2.2.2.1;have hu0:u≠0:=fun e=>ht2.2.2 (by rw [← e];exact hu);have hu1:1≤u:=by have:=hu.1.1;omega
  obtain ⟨c0,c1,c2,c3⟩:=acc.most_cost hr.2.1.1 hbo.1 hu hu1;refine ⟨⟨by rw [← ha];exact hr.1.2.1,.inr (.inr ⟨⟨by show (2:Int)≤2;omega,by show (2:Int)≤4;omega⟩,⟨hr.1.2.2.2.1.1,hn⟩,ht,⟨rfl,rfl⟩,.inr ⟨by show (2:Int)≠4;omega,hr.2.2.1,⟨hu1,c3⟩,.inr ⟨by show (2:Int)≠3;omega,ht2.1,?_⟩⟩⟩)⟩,rfl⟩;show (0≤acc.paid a t te mo∧acc.paid a t te mo≤te)∧(0≤acc.fee t te∧acc.fee t te≤te)∧(0≤tar.cost t.ts (acc.rolled a mo).bo ((acc.rolled a mo).bo+u)∧tar.cost t.ts (acc.rolled a mo).bo ((acc.rolled a mo).bo+u)≤te)∧(0≤acc.rest a t te mo - tar.cost t.ts (acc.rolled a mo).bo ((acc.rolled a mo).bo+u)∧acc.rest a t te mo - tar.cost t.ts (acc.rolled a mo).bo ((acc.rolled a mo).bo+u)≤te)∧acc.paid a t te mo+acc.fee t te+tar.cost t.ts (acc.rolled a mo).bo ((acc.rolled a mo).bo+u)+(acc.rest a t te mo - tar.cost t.ts (acc.rolled a mo).bo ((acc.rolled a mo).bo+u))=te;generalize tar.cost t.ts (acc.rolled a mo).bo ((acc.rolled a mo).bo+u)=C at *;generalize acc.rest a t te mo=R at *;generalize acc.paid a t te mo=P at *;generalize acc.fee t te=F at *;omega
theorem grant_ev {a:Ac} {t:Tm} {mo:Int} {b:Ac} {l:Bi} {me tg:Int} (h:GrantIs a t mo b l 0) (ha:a.me=me) (ht:0≤tg∧tg≤65535):EMay (tokE 3 me mo l tg):=by
 rcases h with ⟨h,rfl,rfl⟩ | ⟨_,_,h,_⟩ | ⟨_,_,_,h,_⟩ | ⟨_,_,_,_,h,_⟩ | ⟨hr,hal,_,hn,_,rfl,rfl⟩
 ·rcases h with ⟨_,h⟩ | ⟨_,h1,h2⟩ | ⟨_,_,_,h⟩
  ·cases h
  ·exact absurd (h2.ok.1 rfl) h1
  ·exact absurd rfl h.ne
 ·cases h
 ·cases h
 ·cases h
 ·have h2:=hr.2.1.2.2.2.2;exact ⟨by rw [← ha];exact hr.1.2.1,.inr (.inr ⟨⟨by show (2:Int)≤3;omega,by show (3:Int)≤4;omega⟩,⟨hr.1.2.2.2.1.1,hn⟩,ht,⟨rfl,rfl⟩,.inr ⟨by show (3:Int)≠4;omega,hr.2.2.1,⟨by show 1≤t.al;have:=h2.1;omega,h2.2⟩,.inl ⟨rfl,rfl,rfl,rfl,rfl,rfl⟩⟩⟩)⟩
theorem rekey_ev {a b:Ac} {l:Bi} {me tg:Int} (h:RekeyIs a b l 0) (ha:a.me=me) (ht:0≤tg∧tg≤65535):EMay (tokE 4 me 0 l tg):=by
 rcases h with ⟨_,_,_,h⟩ | ⟨_,_,_,_,h⟩ | ⟨_,_,_,_,_,h⟩ | ⟨hr,_,hn,rfl,rfl,_⟩
 ·cases h
 ·cases h
 ·cases h
 ·exact ⟨by rw [← ha];exact hr.2.1,.inr (.inr ⟨⟨by show (2:Int)≤4;omega,by show (4:Int)≤4;omega⟩,⟨hr.2.2.2.1.1,hn⟩,ht,⟨rfl,rfl⟩,.inl ⟨rfl,rfl,rfl,rfl,rfl,rfl,rfl,rfl⟩⟩)⟩
theorem tag_bd {l ls:List Pr} {m r b d x:Int} (h:IssueIs l m r b d ls x 0):0≤x∧x≤65535:=by
 rcases h with ⟨_,_,_,h⟩ | ⟨_,_,_,_,h⟩ | ⟨hm,hp,⟨i,hi,rfl⟩,_,_⟩ | ⟨_,_,_,_,_,_,h⟩ | ⟨_,hp,_,_,_,rfl,_⟩
 ·cases h
 ·cases h
 ·exact (hm.each i hi.lt).1.2.2.2
 ·cases h
 ·exact hp.2.2.2
def Asked (kd mo:Int):Prop:=kd=2∨kd=3∨(kd=4∧mo=0)
theorem tells_ev {kd:Int} {t:Tm} {c:Cm} {me te mo:Int} {b:Ac} {l:Bi} {tg:Int} (hk:Asked kd mo) (h:Tells t c (askE kd me te mo) b l 0) (ha:c.a.me=me) (ht:0≤tg∧tg≤65535):EMay (tokE kd me mo l tg)∧Tells t c (tokE kd me mo l tg) b l 0:=by
 rcases h with ⟨e,h⟩ | ⟨e,h⟩ | ⟨e,h⟩
 ·have e:kd=2:=e;subst e;obtain ⟨h1,h2⟩:=sell_ev h ha ht;refine ⟨h1,.inl ⟨rfl,?_⟩⟩;show SellIs c.a t l.te mo b l 0;rw [h2];exact h
 ·have e:kd=3:=e;subst e;exact ⟨grant_ev h ha ht,.inr (.inl ⟨rfl,h⟩)⟩
 ·have e:kd=4:=e;subst e;have hm:mo=0:=by rcases hk with k | k | k;cases k;cases k;exact k.2
  subst hm;exact ⟨rekey_ev h ha ht,.inr (.inr ⟨rfl,h⟩)⟩
theorem tok_step {kd:Int} {t:Tm} {c:List Int} {o:List Pr} {me te mo dr:Int} {ls:List Wr} {o':List Pr} {r:Rc} {bk:List Cm} (hk:Asked kd mo) (hl:LoadIs t c bk 0) (h:TokIs kd t c o me te mo dr ls o' r 0) :
  ∃ k b l tg,FirstAt bk me k∧Tells t (bk.getD k cm0) (tokE kd me mo l tg) b l 0∧IssueIs o me (bk.getD k cm0).a.rv ((tokB kd (bk.getD k cm0).a.rv l 0).body:Int) dr o' tg 0∧EMay (tokE kd me mo l tg) ∧
   StepIs t bk (tokE kd me mo l tg) (bk.set k ⟨b,(bk.getD k cm0).so++[soldOf (bk.getD k cm0) (tokE kd me mo l tg)]⟩) 0∧KeepIs c (tokE kd me mo l tg) ls 0∧r=recB kd (bk.getD k cm0).a.rv me l tg:=by
 obtain ⟨bk',g,hl',h⟩:=h;obtain ⟨rfl,rfl⟩:=hl'.one hl;rcases h with ⟨p,_⟩ | ⟨_,_,_,_,_,q⟩ | ⟨_,k,b,l,x,hf,ht,⟨p,_,_,_,q⟩ | ⟨rfl,o2,tg,g2,hi,⟨p,_,_,_,q⟩ | ⟨rfl,l2,g3,hke,⟨p,_,_,_,q⟩ | ⟨rfl,rfl,rfl,rfl,_⟩⟩⟩⟩
 ·exact absurd rfl p
 ·cases q
 ·exact absurd q.symm p
 ·exact absurd q.symm p
 ·exact absurd q.symm p
 ·obtain ⟨h1,h2⟩:=tells_ev hk ht hf.2.1 (tag_bd hi);refine ⟨k,b,l,tg,hf,h2,hi,h1,?_,hke,rfl⟩;have hne1:(tokE kd me mo l tg).kd≠1:=by show kd≠1;rcases hk with k | k | k <;> omega
  have hne5:(tokE kd me mo l tg).kd≠5:=by show kd≠5;rcases hk with k | k | k <;> omega
  exact .inr (.inr (.inr (.inr ⟨h1,hne1,k,_,hf,.inr ⟨hne5,b,l,0,h2,.inr (.inr ⟨rfl,rfl,rfl,rfl⟩)⟩,fun _=>rfl⟩)))
theorem tok_no {kd:Int} {t:Tm} {c:List Int} {o:List Pr} {me te mo dr:Int} {ls:List Wr} {o':List Pr} {r:Rc} {f:Int} (h:TokIs kd t c o me te mo dr ls o' r f) (hf:f≠0):ls=[]∧o'=[]∧r=rc0:=by
 obtain ⟨bk,g,_,⟨_,a,b,d,_⟩ | ⟨_,_,a,b,d,_⟩ | ⟨_,k,b,l,x,_,_,⟨_,a,e,d,_⟩ | ⟨_,o2,tg,g2,_,⟨_,a,e,d,_⟩ | ⟨_,l2,g3,_,⟨_,a,e,d,_⟩ | ⟨_,_,_,_,e⟩⟩⟩⟩⟩:=h
 ·exact ⟨a,b,d⟩
 ·exact ⟨a,b,d⟩
 ·exact ⟨a,e,d⟩
 ·exact ⟨a,e,d⟩
 ·exact ⟨a,e,d⟩
 ·exact absurd e hf
theorem cha_step {t:Tm} {c:List Int} {me ow bp:Int} {ls:List Wr} {bk:List Cm} (hl:LoadIs t c bk 0) (h:ChaIs t c me ow bp ls 0) :
  ∃ k b,FirstAt bk me k∧EMay (chaE me ow bp)∧StepIs t bk (chaE me ow bp) (bk.set k ⟨b,(bk.getD k cm0).so⟩) 0∧KeepIs c (chaE me ow bp) ls 0:=by
 obtain ⟨bk',g,hl',h⟩:=h;obtain ⟨rfl,rfl⟩:=hl'.one hl;rcases h with ⟨p,_⟩ | ⟨_,_,_,q⟩ | ⟨_,k,b,x,hf,ho,⟨p,_,q⟩ | ⟨rfl,hke⟩⟩
 ·exact absurd rfl p
 ·cases q
 ·exact absurd q.symm p
 ·have hm:(0≤me∧me≤49)∧((1≤ow∧ow≤1000000000)∧0≤bp∧bp≤10000):=by
   rcases ho with ⟨_,_,q⟩ | ⟨_,_,_,q⟩ | ⟨_,_,_,_,q⟩ | ⟨ha,hq,_,_,_⟩
   ·cases q
   ·cases q
   ·cases q
   ·exact ⟨by rw [← hf.2.1];exact ha.2.1,hq⟩
  have hev:EMay (chaE me ow bp):=⟨hm.1,.inr (.inl ⟨rfl,rfl,rfl,rfl,rfl,rfl,rfl,rfl,rfl,rfl,hm.2⟩)⟩
  exact ⟨k,b,hf,hev,.inr (.inr (.inr (.inr ⟨hev,by show (5:Int)≠1;omega,k,_,hf,.inl ⟨rfl,b,ho,fun _=>rfl⟩,fun _=>rfl⟩))),hke⟩
structure Shop (t:Tm) (c:List Int) (n:Nat) (l:List Ev) (bk:List Cm):Prop where
 len:c.length=n
 tape:disk.Tape c (l.map evL) (14*l.length)
 may:∀ v∈l,EMay v
 book:BookIs t l bk 0 0
theorem Shop.load {t:Tm} {c:List Int} {n:Nat} {l:List Ev} {bk:List Cm} (h:Shop t c n l bk):LoadIs t c bk 0:=load_tape h.tape h.may h.book
theorem Shop.next {t:Tm} {c:List Int} {n:Nat} {l:List Ev} {bk bk':List Cm} {v:Ev} {ls:List Wr} (h:Shop t c n l bk) (hn:l.length<120) (hf:14*l.length+13<n) (hv:EMay v) (hs:StepIs t bk v bk' 0) (hk:KeepIs c v ls 0):ls=appW c (14*l.length) (evL v)∧Shop t (wrt c ls) n (l++[v]) bk'∧∀ k,k<ls.length→Shop t (wrt c (ls.take k)) n l bk:=by
 obtain ⟨rfl,_⟩:=keep_tape h.tape h.may hv hn (by rw [h.len];exact hf) hk;have hw:∀ (m:List Wr),(wrt c m).length=n:=fun m=>by rw [cell.wrt_len];exact h.len
 refine ⟨rfl,⟨hw _,?_,?_,book_next h.book hn hs⟩,fun k hk2=>⟨hw _,tape_cut h.tape (by rw [h.len];exact hf) hk2,h.may,h.book⟩⟩
 ·have:=tape_next (v:=v) h.tape (by rw [h.len];exact hf);rw [List.length_append];rw [show 14*(l.length+[v].length)=14*l.length+14 by simp;omega];exact this
 ·intro x hx;rcases List.mem_append.1 hx with h2 | h2
  ·exact h.may x h2
  ·rw [List.mem_singleton.1 h2];exact hv
end vnd
namespace cell
open Go.RowKit
theorem apply_cap (a b:Option Addr) (n m c1 c2 k:Nat) (xs:List Int) (ls:List Wr) (w:World) (h1:RowU w a n xs) (h2:RowW w b m ls) (hn:1≤n) (hn2:n≤2048) (hm:m≤4096) (hc:m≤c2) (hall:allN n ls=true) (hk:k≤m) :
  Calls Tryz.prog 22 #[.slice a n c1,.slice b m c2,zI (k:Int)] w fun e w'=>GaveC w (wrt xs (ls.take k)) 0 e w':=by
 have HM:Hid (∀ W,Calls Tryz.prog 46 #[zI (n:Int)] W fun e w'=>e = .returned (.bool true)∧w'=W):=fun W=>may_yes _ W (by omega) (by omega);have hW:=Blk.new w #[.slice a n c1] 25;have HB:Hid (Below w.heap.size w (w.alloc (.cells #[.slice a n c1] 25))):=(Below.refl _ _).alloc (Nat.le_refl _) _;have hx:=hW.cell 0;have HX:Hid (∀ W',Below (w.alloc (.cells #[.slice a n c1] 25)).heap.size (w.alloc (.cells #[.slice a n c1] 25)) W'→W'.cell? ⟨w.heap.size,0,none⟩=some (.slice a n c1)):=fun W' hb=>(hW.next hb).cell 0
 have HC:Hid (Calls Tryz.prog 48 #[.slice b m c2,fv w.heap.size] (w.alloc (.cells #[.slice a n c1] 25)) fun e w'=>e = .returned (.bool false)∧Below (w.alloc (.cells #[.slice a n c1] 25)).heap.size (w.alloc (.cells #[.slice a n c1] 25)) w'):=by
  have h:=contains_any w.heap.size n c1 m c2 a b ls (w.alloc (.cells #[.slice a n c1] 25)) hx hn2 (h2.below HB.o) hm;rw [hall] at h;exact h
 have HW:Hid (∀ W,Below w.heap.size w W→Calls Tryz.prog 49 #[.slice a n c1,.slice b k k] W fun e w'=>∃ g,e = .returned (.slice (some ⟨g,0,none⟩) n n)∧RowU w' (some ⟨g,0,none⟩) n (wrt xs (ls.take k))∧Below W.heap.size W w'):=fun W hb=>
  written_any a b n k c1 k xs (ls.take k) W (h1.below hb) ((h2.below hb).cut hk) hn hn2 (by omega) (allN_take hall k)
 clear h1 h2 hall hW;unfold fv at HC;generalize wrt xs (ls.take k)=zs at *;go_enter Tryz.func22,Tryz.ntmps22;go_wp2_with fail;refine (HM.o _).mono ?_;rintro e w1 ⟨rfl,rfl⟩;go_wp2_with fail;refine HC.o.mono ?_;rintro e w2 ⟨rfl,hb2⟩;have hx2:=HX.o _ hb2;have HB2:=shB HB hb2;have HWD:Hid (Calls Tryz.prog 49 #[.slice a n c1,.slice b k k] w2.drew fun e w'=>∃ g,e = .returned (.slice (some ⟨g,0,none⟩) n n)∧RowU w' (some ⟨g,0,none⟩) n zs∧Below w2.heap.size w2.drew w'):=HW.o _ HB2.o.drew;have KS:Hid (w2.drew.cell? ⟨w.heap.size,0,none⟩=some (.slice a n c1)):=hx2;have hGl:w.heap.size<w2.drew.heap.size:=World.block_lt_of_cell? w2 _ hx2;have HGL:Hid (w.heap.size<w2.heap.size):=hGl;clear hb2 hx HC HM HX HW hGl;have hkc:k≤c2:=by omega
 cases b with
 | none=>
  go_wp2_with fail
  go_region_held (fun v=>v.cell? ⟨w.heap.size,0,none⟩=some (.slice a n c1))
   (first | with_reducible exact KS.o | with_reducible exact K1.o)
   (first
    | (go_at_call 49;with_reducible refine HWD.o.mono ?_;rintro e w3 ⟨g,rfl,hr3,hb3⟩
       have K1:Hid (w3.cell? ⟨w.heap.size,0,none⟩=some (.slice a n c1)):=(hb3.cell (p:=⟨w.heap.size,0,none⟩) HGL.o).trans hx2;have HF:Hid (RowU w3 (some ⟨g,0,none⟩) n zs∧Below w.heap.size w w3):=⟨hr3,bel_step HB2.o.drew hb3⟩
       clear hr3 hb3))
  all_goals go_wp2_with fail
  all_goals
   go_ret2;exact GaveC.mk HF.o.1 (fun h=>by cases h) (Nat.le_refl _) HF.o.2
 | some y=>
  go_wp2_with fail
  go_region_held (fun v=>v.cell? ⟨w.heap.size,0,none⟩=some (.slice a n c1))
   (first | with_reducible exact KS.o | with_reducible exact K1.o)
   (first
    | (go_at_call 49;with_reducible refine HWD.o.mono ?_;rintro e w3 ⟨g,rfl,hr3,hb3⟩
       have K1:Hid (w3.cell? ⟨w.heap.size,0,none⟩=some (.slice a n c1)):=(hb3.cell (p:=⟨w.heap.size,0,none⟩) HGL.o).trans hx2;have HF:Hid (RowU w3 (some ⟨g,0,none⟩) n zs∧Below w.heap.size w w3):=⟨hr3,bel_step HB2.o.drew hb3⟩
       clear hr3 hb3))
  all_goals go_wp2_with fail
  all_goals
   go_ret2;exact GaveC.mk HF.o.1 (fun h=>by cases h) (Nat.le_refl _) HF.o.2
end cell
namespace vnd
open book (Ev ev0 Cm cm0 So so0 Sees)
open acc (Ac Tm Bi)
open ora (Pr)
open cell (Wr RowU RowW)
open rcp (Rc rc0)
open Go.RowKit
def KvReg:Prop:=∀ (W:World) (t:Tm) (pt:Option Addr) (lt ct:Nat) (a:Option Addr) (n cap:Nat) (c:List Int) (me:Int),acc.TCame W t pt lt ct→Dk W a n cap c→(Lit.int .i64 me).wf=true→Calls Tryz.prog 34 #[t.v pt lt ct,.slice a n cap,zI me] W fun e w'=>WrGot W (RegIs t c me) e w'
end vnd
namespace words
open Go.RowKit
theorem run_putStep (args:Array Value) (w:World):(callFunc 169 args).run Tryz.prog w = .ok (.enter 169 args) w:=by kernel_rfl
theorem low32 (s:Nat):((s:Nat):Int) % 4294967296=((s % 2 ^ 32:Nat):Int):=by omega
theorem putStep_abs (N At V:Nat) (x v n k M s r f g z y:Int) (w:World) (hn:w.cell? ⟨N,0,none⟩=some (zI n)) (hat:w.cell? ⟨At,0,none⟩=some (zI k)) (hf:w.frozen? ⟨At,0,none⟩=false) (hv:w.cell? ⟨V,0,none⟩=some (.int .u64 v))
  (HO:Hid (∀ w,Calls Tryz.prog 168 #[zI n] w fun e w'=>e = .returned (.int .u64 M)∧w'=w))
  (HS:Hid (∀ w,Calls Tryz.prog 170 #[.int .u64 M,zI k] w fun e w'=>e = .returned (.int .u64 s)∧w'=w))
  (HT:Hid (∀ w,Calls Tryz.prog 170 #[.int .u64 v,zI k] w fun e w'=>e = .returned (.int .u64 r)∧w'=w))
  (q1:s % 4294967296=f) (q2:r % 4294967296=g) (o1:bits .andNot .u32 x f=z) (o2:bits .or .u32 z g=y) (k0:-64≤k) (k1:k≤96) :
  Calls Tryz.prog 169 #[.int .u32 x,.pointer (some ⟨N,0,none⟩),.pointer (some ⟨At,0,none⟩),.pointer (some ⟨V,0,none⟩)] w fun e w'=>e = .returned (.int .u32 y)∧Acc w w' At (zI (k - 32)):=by
 have hA:Acc w w At (zI k):=Acc.refl hat hf;have HA:Hid (Acc w w At (zI k)):=hA;clear hA;go_enter Tryz.func169,Tryz.ntmps169;go_wp2_with fail
 go_quiet (first
  | (go_at_call 168;exact (HO.o _).mono fun _ _ h=>⟨h.1,_,h.2⟩)
  | (go_at_call_of 170 (Value.int .u64 M);exact (HS.o _).mono fun _ _ h=>⟨h.1,_,h.2⟩)
  | (go_at_call_of 170 (Value.int .u64 v);exact (HT.o _).mono fun _ _ h=>⟨h.1,_,h.2⟩))
 go_wp2_with fail;go_ret;exact ⟨rfl,(HA.o.drewN _).set _⟩
theorem putStep_any (N At V:Nat) (x v n:Nat) (k:Int) (w:World) (hn:w.cell? ⟨N,0,none⟩=some (zI (n:Int))) (hat:w.cell? ⟨At,0,none⟩=some (zI k)) (hf:w.frozen? ⟨At,0,none⟩=false) (hv:w.cell? ⟨V,0,none⟩=some (.int .u64 (v:Int)))
  (x1:x<2 ^ 32) (v1:v<2 ^ 64) (n0:1≤n) (n1:n≤64) (k0:-64≤k) (k1:k≤96) :
  Calls Tryz.prog 169 #[.int .u32 (x:Int),.pointer (some ⟨N,0,none⟩),.pointer (some ⟨At,0,none⟩),.pointer (some ⟨V,0,none⟩)] w fun e w'=>e = .returned (.int .u32 (putN x v n k:Nat))∧Acc w w' At (zI (k - 32)):=by
 have l1:sh (onesN n) k % 2 ^ 32<2 ^ 32:=Nat.mod_lt _ (by decide);have l2:sh v k % 2 ^ 32<2 ^ 32:=Nat.mod_lt _ (by decide);have l3:x &&& (2 ^ 32 - 1 - sh (onesN n) k % 2 ^ 32)<2 ^ 32:=Nat.lt_of_le_of_lt Nat.and_le_left x1
 exact putStep_abs N At V x v n k (onesN n:Nat) (sh (onesN n) k:Nat) (sh v k:Nat) _ _ _ _ w hn hat hf hv
  (fun w=>ones_any n w n0 n1) (fun w=>shift_any _ _ w (ones_lt n n1) (by omega) k1) (fun w=>shift_any _ _ w v1 (by omega) k1)
  (low32 _) (low32 _) (andNot32 x _ x1 l1) (or32 _ _ l3 l2) k0 k1
theorem five (w:World) (cs:Array Value) (T1 T2 T3 T5:TypeId) (m v x y z u:Value) (q:Nat) :
  (((((((w.alloc (.cells cs T1)).alloc (.cells #[m] T2)).alloc (.cells #[v] T3)).alloc (.cells #[x,y,z] 131)).drewN q).alloc (.cells #[u] T5)).cell? ⟨w.heap.size+1,0,none⟩=some m) ∧
  (((((((w.alloc (.cells cs T1)).alloc (.cells #[m] T2)).alloc (.cells #[v] T3)).alloc (.cells #[x,y,z] 131)).drewN q).alloc (.cells #[u] T5)).cell? ⟨w.heap.size+1+1,0,none⟩=some v) ∧
  Trio ((((((w.alloc (.cells cs T1)).alloc (.cells #[m] T2)).alloc (.cells #[v] T3)).alloc (.cells #[x,y,z] 131)).drewN q).alloc (.cells #[u] T5)) (w.heap.size+1+1+1) x y z ∧
  (((((((w.alloc (.cells cs T1)).alloc (.cells #[m] T2)).alloc (.cells #[v] T3)).alloc (.cells #[x,y,z] 131)).drewN q).alloc (.cells #[u] T5)).cell? ⟨w.heap.size+1+1+1+1,0,none⟩=some u) ∧
  (((((((w.alloc (.cells cs T1)).alloc (.cells #[m] T2)).alloc (.cells #[v] T3)).alloc (.cells #[x,y,z] 131)).drewN q).alloc (.cells #[u] T5)).frozen? ⟨w.heap.size+1+1+1+1,0,none⟩=false):=by
 have hh:((((((w.alloc (.cells cs T1)).alloc (.cells #[m] T2)).alloc (.cells #[v] T3)).alloc (.cells #[x,y,z] 131)).drewN q).alloc (.cells #[u] T5)).heap=((((w.heap.push (.cells cs T1)).push (.cells #[m] T2)).push (.cells #[v] T3)).push (.cells #[x,y,z] 131)).push (.cells #[u] T5):=rfl;have s1:w.heap.size+1=(w.heap.push (.cells cs T1)).size:=by simp
 have s2:w.heap.size+1+1=((w.heap.push (.cells cs T1)).push (.cells #[m] T2)).size:=by simp
 have s3:w.heap.size+1+1+1=(((w.heap.push (.cells cs T1)).push (.cells #[m] T2)).push (.cells #[v] T3)).size:=by simp
 have s4:w.heap.size+1+1+1+1=((((w.heap.push (.cells cs T1)).push (.cells #[m] T2)).push (.cells #[v] T3)).push (.cells #[x,y,z] 131)).size:=by simp
 generalize ((((((w.alloc (.cells cs T1)).alloc (.cells #[m] T2)).alloc (.cells #[v] T3)).alloc (.cells #[x,y,z] 131)).drewN q).alloc (.cells #[u] T5))=W at *
 have e1:W.heap[w.heap.size+1]?=some (.cells #[m] T2):=by
  rw [hh,Array.getElem?_push,if_neg (by simp),Array.getElem?_push,if_neg (by simp),Array.getElem?_push,if_neg (by simp),s1,Array.getElem?_push_size]
 have e2:W.heap[w.heap.size+1+1]?=some (.cells #[v] T3):=by
  rw [hh,Array.getElem?_push,if_neg (by simp),Array.getElem?_push,if_neg (by simp),s2,Array.getElem?_push_size]
 have e3:W.heap[w.heap.size+1+1+1]?=some (.cells #[x,y,z] 131):=by
  rw [hh,Array.getElem?_push,if_neg (by simp),s3,Array.getElem?_push_size]
 have e4:W.heap[w.heap.size+1+1+1+1]?=some (.cells #[u] T5):=by
  rw [hh,s4,Array.getElem?_push_size]
 refine ⟨?_,?_,e3,?_,?_⟩
 ·simp only [World.cell?,e1];rfl
 ·simp only [World.cell?,e2];rfl
 ·simp only [World.cell?,e4];rfl
 ·simp only [World.frozen?,e4];rfl
theorem bel5 (w:World) (o1 o2 o3 o4 o5:Obj) (q:Nat):Below w.heap.size w (((((w.alloc o1).alloc o2).alloc o3).alloc o4).drewN q |>.alloc o5):=
 (below_drewN (bel4 w o1 o2 o3 o4) q).alloc (by show _≤((((w.heap.push o1).push o2).push o3).push o4).size;simp;omega) _
theorem put_any (a b c v lo n:Nat) (w:World) (ha:a<2 ^ 32) (hb:b<2 ^ 32) (hc:c<2 ^ 32) (hv:v<2 ^ n) (n0:1≤n) (n1:n≤64) (hl:lo+n≤96) :
  Calls Tryz.prog 132 #[.agg #[.int .u32 (a:Int),.int .u32 (b:Int),.int .u32 (c:Int)],zI (lo:Int),zI (n:Int),.int .u64 (v:Int)] w fun e w'=>
   e = .returned (.tuple #[.agg #[.int .u32 (putN a v n lo:Nat),.int .u32 (putN b v n ((lo:Int) - 32):Nat),.int .u32 (putN c v n ((lo:Int) - 64):Nat)],zI 0])∧Below w.heap.size w w':=by
 have v1:v<2 ^ 64:=Nat.lt_of_lt_of_le hv (Nat.pow_le_pow_right (by decide) n1);have HI:Hid (∀ w,Calls Tryz.prog 167 #[zI (lo:Int),zI (n:Int)] w fun e w'=>e = .returned (.bool true)∧w'=w):=fun w=>isField_yes _ _ w (by omega) (by omega) (by omega) (by omega);have HO:Hid (∀ w,Calls Tryz.prog 168 #[zI (n:Int)] w fun e w'=>e = .returned (.int .u64 (onesN n:Nat))∧w'=w):=fun w=>ones_any n w n0 n1;have hd:decide (((onesN n:Nat):Int)<(v:Int))=false:=decide_eq_false (by unfold onesN;omega);have e64:(lo:Int) - 32 - 32=(lo:Int) - 64:=by omega
 generalize ((onesN n:Nat):Int)=M at *;rw [← e64];go_enter Tryz.func132,Tryz.ntmps132;go_wp2_with fail
 go_quiet (first
  | (go_at_call 167;exact (HI.o _).mono fun _ _ h=>⟨h.1,_,h.2⟩)
  | (go_at_call 168;exact (HO.o _).mono fun _ _ h=>⟨h.1,_,h.2⟩))
 go_wp2_with fail;obtain ⟨f1,f2,f3,f4,f5⟩:=five w #[.int .u32 (a:Int),.int .u32 (b:Int),.int .u32 (c:Int)] 131 3 223 3 (zI (n:Int)) (.int .u64 (v:Int)) (.int .u32 0) (.int .u32 0) (.int .u32 0) (zI (lo:Int)) nq;have hb5:=bel5 w (.cells #[.int .u32 (a:Int),.int .u32 (b:Int),.int .u32 (c:Int)] 131) (.cells #[zI (n:Int)] 3) (.cells #[.int .u64 (v:Int)] 223) (.cells #[.int .u32 0,.int .u32 0,.int .u32 0] 131) (.cells #[zI (lo:Int)] 3) nq
 refine (upward_any 169 #[.pointer (some ⟨w.heap.size+1,0,none⟩),.pointer (some ⟨w.heap.size+1+1+1+1,0,none⟩),.pointer (some ⟨w.heap.size+1+1,0,none⟩)] (w.heap.size+1+1+1+1) (zI (lo:Int)) (zI ((lo:Int) - 32)) (zI ((lo:Int) - 32 - 32)) (zI ((lo:Int) - 32 - 32 - 32)) a b c
  (putN a v n lo:Nat) (putN b v n ((lo:Int) - 32):Nat) (putN c v n ((lo:Int) - 32 - 32):Nat) _ (Acc.refl f4 f5) run_putStep
  (fun w' h=>putStep_any _ _ _ _ _ _ _ w' (h.keep f1 (by omega)) h.cell h.free (h.keep f2 (by omega)) ha v1 n0 n1 (by omega) (by omega))
  (fun w' h=>putStep_any _ _ _ _ _ _ _ w' (h.keep f1 (by omega)) h.cell h.free (h.keep f2 (by omega)) hb v1 n0 n1 (by omega) (by omega))
  (fun w' h=>putStep_any _ _ _ _ _ _ _ w' (h.keep f1 (by omega)) h.cell h.free (h.keep f2 (by omega)) hc v1 n0 n1 (by omega) (by omega))).mono ?_
 rintro e w1 ⟨he,hA⟩;have hR:=f3.acc hA (by omega);have HB:Hid (Below w.heap.size w w1):=hA.below hb5 (by omega);clear hA f1 f2 f3 f4 f5 hb5;have HE2:Hid (e = .returned (.agg #[.int .u32 (putN a v n lo:Nat),.int .u32 (putN b v n ((lo:Int) - 32):Nat),.int .u32 (putN c v n ((lo:Int) - 32 - 32):Nat)])):=he;clear he;obtain ⟨y0,h0⟩:∃ y0:Int,y0=(putN a v n lo:Nat):=⟨_,rfl⟩
 obtain ⟨y1,h1⟩:∃ y1:Int,y1=(putN b v n ((lo:Int) - 32):Nat):=⟨_,rfl⟩
 obtain ⟨y2,h2⟩:∃ y2:Int,y2=(putN c v n ((lo:Int) - 32 - 32):Nat):=⟨_,rfl⟩
 have HH:Hid (y0=(putN a v n lo:Nat)∧y1=(putN b v n ((lo:Int) - 32):Nat)∧y2=(putN c v n ((lo:Int) - 32 - 32):Nat)):=⟨h0,h1,h2⟩
 rw [← h0,← h1,← h2] at HE2;obtain rfl:=HE2.o;clear HE2 h0 h1 h2;have r0:=hR.c0;have r1:=hR.c1;have r2:=hR.c2;have g0:=hR.free 0;have g1:=hR.free 1;have g2:=hR.free 2;have HR:Hid (Trio w1 (w.heap.size+1+1+1) (.int .u32 0) (.int .u32 0) (.int .u32 0)):=hR;clear hR;go_wp2_with fail;have RR:=HR.o.put (.int .u32 y0) (.int .u32 y1) (.int .u32 y2);refine bodyPost_ret (v:= .tuple #[.agg #[.int .u32 y0,.int .u32 y1,.int .u32 y2],zI 0]) (by simp [results,Tryz.results132,RR.c0,RR.c1,RR.c2,go_sem]) rfl ⟨?_,?_⟩
 ·rw [HH.o.1,HH.o.2.1,HH.o.2.2]
 ·exact below_put3 HB.o _ _ _ _ (by omega)
end words
namespace vnd
open disk (RepIs repD lenAt itD)
open book (Ev ev0 evOf ECame)
open Go.RowKit
theorem it_in (c:List Int) (k:Nat):∀ z∈(disk.itD c k).1,∀ x∈z,x∈c:=by
 induction k with
 | zero=>intro z hz;simp [disk.itD] at hz
 | succ k ih=>
  intro z hz x hx;by_cases h:0<disk.lenAt c (disk.itD c k).2
  ·rw [disk.it_live h] at hz;rcases List.mem_append.1 hz with hz | hz
   ·exact ih z hz x hx
   ·rw [List.mem_singleton.1 hz] at hx;exact List.mem_of_mem_drop (List.mem_of_mem_take hx)
  ·have e:=disk.it_dead h 1;rw [e] at hz;exact ih z hz x hx
theorem rep_in {c:List Int} {o:List (List Int)} {x f:Int} (h:RepIs c o x f):∀ z∈o,∀ y∈z,y∈c:=by
 rcases h with ⟨_,rfl,_⟩ | ⟨_,_,rfl,_⟩ | ⟨_,_,rfl,_⟩
 ·intro z hz;cases hz
 ·intro z hz;cases hz
 ·exact it_in c _
theorem rep_len {c:List Int} {o:List (List Int)} {x f:Int} (h:RepIs c o x f):o.length≤2048:=(disk.rep_few h).1
theorem getD_inR {o:List (List Int)} {j:Nat} (h:j<o.length):o.getD j []∈o:=by
 have e:o.getD j []=o[j]:=by simp [List.getD,List.getElem?_eq_getElem h]
 rw [e];exact List.getElem_mem _
theorem take_mapE (o:List (List Int)) (k:Nat) (h:k<o.length):(o.take k).map evOf++[evOf (o.getD k [])]=(o.take (k+1)).map evOf:=by
 have e:o.getD k []=o[k]:=by simp [List.getD,List.getElem?_eq_getElem h]
 rw [List.take_succ_eq_append_getElem h,List.map_append,e];rfl
def KeptPost (w:World) (c:List Int) (e:Ending) (w':World):Prop:=∃ p m cp l f,e = .returned (.tuple #[.slice p m cp,zI f])∧KeptIs c l f∧ECame w' p m cp l∧m≤2048∧Below w.heap.size w w'
theorem ecame_nil (w:World):ECame w none 0 0 []:=⟨⟨rfl,.inl rfl⟩,fun _=>rfl,Nat.le_refl _,by omega,fun v hv=>by cases hv⟩
end vnd
namespace book
open Go.RowKit cell
def DecGot (w:World) (l:List Int) (e:Ending) (w':World):Prop:=∃ v f,e = .returned (.tuple #[Ev.v v,zI f])∧DecIs l v f∧Below w.heap.size w w'
def KDec:Prop:=∀ (W:World) (a:Option Addr) (n cap:Nat) (l:List Int),RowU W a n l→(a=none→cap=0)→n≤cap→n*4≤140737488351232→(∀ x∈l,0≤x∧x<4294967296)→Calls Tryz.prog 36 #[.slice a n cap] W fun e w'=>DecGot W l e w'
open acc (Ac Tm Bi APost BPost TFault TRight OpenIs OweIs SellIs GrantIs RekeyIs wf6 ACame TCame fresh_updN fresh_drew came_lt)
def CuPost (w:World) (a:Option Addr) (bk:List Cm) (me:Int) (e:Ending) (w':World):Prop:=w'=w∧((∃ k g,FirstAt bk me k∧a=some ⟨g,0,none⟩∧e = .returned (.pointer (some ⟨g,k*8,none⟩)))∨(NoneAt bk me∧e = .panicked (thrown 18)))
theorem bcust (gW B:Nat) (t:Tm) (pt:Option Addr) (lt ct:Nat) (a:Option Addr) (n cap:Nat) (bk:List Cm) (me:Int) (w:World) (hw:Blk w gW #[.slice a n cap,.slice pt lt ct,zI t.ff,zI t.fb,zI t.db,zI t.al,.map (some B)] 113) (hm:MpI w B (mes bk)) (hn:bk.length=n) (ha:0<n→∃ g,a=some ⟨g,0,none⟩) (hs:n≤1000):Calls Tryz.prog 71 #[.pointer (some ⟨gW,0,none⟩),zI me] w fun e w'=>CuPost w a bk me e w':=by
 have HNO:Hid (∀ W,Calls Tryz.prog 112 #[zI 18] W fun e w'=>e = .panicked (thrown 18)∧w'=W):=fun W=>insist_no 18 (by decide) W;have q0:w.cell? ⟨gW,0,none⟩=some (.slice a n cap):=hw.cell 0;have q6:w.cell? ⟨gW,6,none⟩=some (.map (some B)):=hw.cell 6;have hlk:=lookI_run hm me;clear hw hm;cases hf:firstI (mes bk) me with
 | none=>
  rw [hf] at hlk;simp only [Option.getD_none,Option.isSome_none] at hlk;have HN:Hid (NoneAt bk me):=first_none hf;clear hf;go_enter Tryz.func71,Tryz.ntmps71;go_wp2_with fail;refine (HNO.o _).mono ?_;rintro e W9 ⟨rfl,rfl⟩;exact ⟨rfl,rfl,.inr ⟨HN.o,rfl⟩⟩
 | some k=>
  rw [hf] at hlk;simp only [Option.getD_some,Option.isSome_some] at hlk;have hfa:=first_some hf;have hkn:k<n:=by have:=hfa.1;omega
  obtain ⟨g,rfl⟩:=ha (by omega);have HN:Hid (FirstAt bk me k):=hfa;clear hf hfa ha hn;go_enter Tryz.func71,Tryz.ntmps71;go_wp2_with fail;go_ret;exact ⟨rfl,.inl ⟨k,g,HN.o,rfl,by first | rfl | simp⟩⟩
end book
namespace vnd
open disk (RepIs AppIs)
open book (Ev ev0 EMay evL evOf EncIs DecIs Cm cm0 So so0 BookIs Sees ECame FirstAt NoneAt)
open acc (Ac Tm Bi TCame ACame)
open cell (Wr RowU)
open Go.RowKit
theorem pref (x:Int) (w:World):Calls Tryz.prog 122 #[zI x] w fun e w'=>e = .returned (.tuple #[zS,.agg #[zS],.agg #[zI 0,zI 0,zI 0,zI 0,zI 0,zI 0,zI 0,zI 0,.string ⟨#[]⟩],zI x])∧Below w.heap.size w w':=by
 obtain ⟨W0,HWW,H0o,H0r,H0B,hs0⟩:=sh2 w #[zS] 39 #[zI 0,zI 0,zI 0,zI 0,zI 0,zI 0,zI 0,zI 0,.string ⟨#[]⟩] 78;go_enter Tryz.func122,Tryz.ntmps122;go_upto_region 1 with fail
 rw [HWW.o];clear HWW
 go_wp2_with (first
  | (refine zql rfl rfl rfl rfl zqu39 (by simp [Value.oneCell']) H0o rfl ?_)
  | (refine zqw rfl rfl rfl H0o zqu39 ?_)
  | (refine zqw rfl rfl rfl H0r zqu78 ?_)
  | fail)
 intro W1 hU;have H1o:Hid (Blk W1 (w.heap.size) #[zS] 39):=hU.blk;have H1r:=shK hU H0r (by omega);have H1B:=shV hU H0B (by omega);have hsW1:W1.heap.size=W0.heap.size:=hU.size;clear hU H0o H0r H0B
 go_wp2_with (first
  | (refine zql rfl rfl rfl rfl zqu78 (by simp [Value.oneCell']) H1r rfl ?_)
  | (refine zqw rfl rfl rfl H1o zqu39 ?_)
  | (refine zqw rfl rfl rfl H1r zqu78 ?_)
  | fail)
 intro W2 hU;have H2o:=shK hU H1o (by omega);have H2r:Hid (Blk W2 (w.heap.size+1) #[zI 0,zI 0,zI 0,zI 0,zI 0,zI 0,zI 0,zI 0,.string ⟨#[]⟩] 78):=hU.blk;have H2B:=shV hU H1B (by omega);have hsW2:W2.heap.size=W1.heap.size:=hU.size;clear hU H1o H1r H1B;have Ro0:Hid (W2.cell? ⟨w.heap.size,0,none⟩=some (zS)):=H2o.o.cell 0;obtain ⟨Rr0,Rr1,Rr2,Rr3,Rr4,Rr5,Rr6,Rr7,Rr8⟩:=shc9 H2r;go_wp2_with fail;exact bodyPost_ret (v:= .tuple #[zS,.agg #[zS],.agg #[zI 0,zI 0,zI 0,zI 0,zI 0,zI 0,zI 0,zI 0,.string ⟨#[]⟩],zI x]) (by simp [results,Tryz.results122,Ro0.o,Rr0.o,Rr1.o,Rr2.o,Rr3.o,Rr4.o,Rr5.o,Rr6.o,Rr7.o,Rr8.o,go_sem]) rfl ⟨rfl,H2B.o⟩
end vnd
namespace words
open Go.RowKit
theorem eq1 (d:Nat) (a a':Int) (w:World):(Op.equalIn (d+1) 99 (.int .u32 a) (.int .u32 a')).run Tryz.prog w = .ok (a == a') w:=by
 simp [Op.equalIn,run_underlying Tryz.underlying99,go_sem]
theorem part0 (a b c:Int) (w:World):(part 99 #[.int .u32 a,.int .u32 b,.int .u32 c] 0).run Tryz.prog w = .ok (.int .u32 a) w:=by kernel_rfl
theorem part1 (a b c:Int) (w:World):(part 99 #[.int .u32 a,.int .u32 b,.int .u32 c] 1).run Tryz.prog w = .ok (.int .u32 b) w:=by kernel_rfl
theorem part2 (a b c:Int) (w:World):(part 99 #[.int .u32 a,.int .u32 b,.int .u32 c] 2).run Tryz.prog w = .ok (.int .u32 c) w:=by kernel_rfl
theorem eq3 (a b c a' b' c':Int) (w:World) :
  (Op.equalIn 10000 131 (.agg #[.int .u32 a,.int .u32 b,.int .u32 c]) (.agg #[.int .u32 a',.int .u32 b',.int .u32 c'])).run Tryz.prog w = .ok (a == a' && (b == b' && c == c')) w:=by
 obtain ⟨i0,hi⟩:∃ i,Tryz.prog.info? 99=some i:=⟨_,rfl⟩
 rw [show (10000:Nat)=9999+1 from rfl,run_equalIn_array (w:=w) 9999 _ _ Tryz.underlying131 hi,cells_word,show List.range 3=[0,1,2] from rfl];simp only [Op.eqItems,Sem.run_bind,Nat.mul_one,part0,Result.andThen_ok,show (9999:Nat)=9998+1 from rfl,eq1];by_cases ha:a=a'
 ·by_cases hb:b=b'
  ·by_cases hc:c=c'
   ·simp [part1,part2,Sem.run_bind,eq1,ha,hb,hc]
   ·simp [part1,part2,Sem.run_bind,eq1,ha,hb,hc]
  ·simp [part1,Sem.run_bind,eq1,ha,hb]
 ·simp [ha]
theorem eq3_same (x:W3) (w:World):(Op.equalIn 10000 131 (wv x) (wv x)).run Tryz.prog w = .ok true w:=by
 rw [eq3];simp
theorem eq3_other {x y:W3} (h:x≠y) (w:World):(Op.equalIn 10000 131 (wv x) (wv y)).run Tryz.prog w = .ok false w:=by
 rw [eq3];have:=agg_ne h
 congr 1
 simp;intro h1 h2 h3;exact this ⟨h1,h2,h3⟩
end words
end Go.Proofs.YtnpblpbohcegoaaGreatDoor
