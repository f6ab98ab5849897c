import Derived.Test.YtnpblpbohcegoaaGreatDoorVBNrs32
set_option linter.unusedVariables false
set_option linter.unusedSimpArgs false
set_option maxHeartbeats 4000000
set_option maxRecDepth 100000
namespace Go.Proofs.YtnpblpbohcegoaaGreatDoor
namespace vnd
open disk (RepIs AppIs May repD lenAt appW Wds)
open book (Ev ev0 EMay evL evOf EncIs DecIs Cm cm0 So so0 BookIs FirstAt NoneAt Tells billOf soldOf StepIs HapIs)
open acc (Ac Tm Bi)
open ora (Pr IssueIs)
open cell (Wr wrt RowU RowW)
open rcp (Rc rc0)
open Go.RowKit
def AppK (w:World) (n:Nat) (z:List Int) (e:Ending) (w':World):Prop:=∃ a cap,e = .returned (.tuple #[.slice a n cap,zI 0])∧Dk w' a n cap z∧Below w.heap.size w w'
theorem step_writes {t:Tm} {c:List Int} {n:Nat} {l:List Ev} {bk bk':List Cm} {v:Ev} {ls:List Wr} (h:Shop t c n l bk) (hs:Stepped t c n l bk v bk' ls) (hn:l.length<120) (hf:14*l.length+13<n):ls=appW c (14*l.length) (evL v):=
 (keep_tape h.tape h.may hs.ev hn (by rw [h.len];exact hf) hs.keep).1
theorem apply_step {t:Tm} {c:List Int} {n:Nat} {l:List Ev} {bk bk':List Cm} {v:Ev} {ls:List Wr} (h:Shop t c n l bk) (hs:Stepped t c n l bk v bk' ls) (hn:l.length<120) (hf:14*l.length+13<n) (a b:Option Addr) (m c1 c2 k:Nat) (w:World) (hd:Dk w a n c1 c) (hw:RowW w b m ls) (hc:m≤c2) (hk:k≤m) :
  Calls Tryz.prog 22 #[.slice a n c1,.slice b m c2,zI (k:Int)] w fun e w'=>AppK w n (wrt c (ls.take k)) e w':=by
 have hls:=step_writes h hs hn hf;subst hls;have hcl:c.length=n:=h.len;have hm1:=h.tape.1.1;have hm2:=h.tape.1.2
 have hm:m≤4096:=by
  have h1:=hw.1;rw [disk.app_len,book.evL_len] at h1;split at h1 <;> omega
 refine (cell.apply_cap a b n m c1 c2 k c _ w hd.row hw (by omega) (by omega) hm hc (by rw [← hcl];exact disk.app_in c (evL v) _ (by rw [book.evL_len];omega)) hk).mono ?_;rintro e' w' ⟨a',cap',he,hrow,hnil,hroom,hb⟩;rw [cell.wrt_len,hcl] at he hrow hroom;exact ⟨a',cap',he,⟨hrow,hnil,hroom,by omega,disk.wds_wrt hd.wd _ (disk.wrs_take (disk.wrs_app (book.may_word hs.ev) (rmay_ev v) _) k)⟩,hb⟩
theorem some_writes {t:Tm} {c:List Int} {n:Nat} {l:List Ev} {bk bk':List Cm} {v:Ev} {ls:List Wr} (hs:Stepped t c n l bk v bk' ls) {w:World} {b:Option Addr} {m:Nat} (hw:RowW w b m ls):1≤m:=by
 have h1:=hs.some;have h2:=hw.1;cases ls with
 | nil=>exact absurd rfl h1
 | cons x l=>simp at h2;omega
theorem all_writes {w:World} {b:Option Addr} {m:Nat} {ls:List Wr} (hw:RowW w b m ls):ls.take m=ls:=List.take_of_length_le (by rw [hw.1];exact Nat.le_refl _)
theorem blank_dk {w:World} {a:Option Addr} {n cap:Nat} (hn:n≤2048) (hr:RowU w a n (List.replicate n 0)) (h0:a=none→cap=0) (h1:n≤cap):Dk w a n cap (List.replicate n 0):=⟨hr,h0,h1,by omega,disk.wds_zero n⟩
theorem dk_far {w:World} {a:Option Addr} {n cap:Nat} {c:List Int} {B:Nat} {cs:Array Value} {T:TypeId} (h:Dk w a n cap c) (hB:Blk w B cs T) (hno:∀ (j:Nat) (z:Int),cs[j]?≠some (Value.int .u32 z)):0<n→∀ y,a=some y→y.block≠B:=fun hn y hy hb=>by
 obtain ⟨b,off,rfl,_,hc⟩:=h.row.at hn;cases hy;have h1:=hc 0 hn;simp only [] at hb;subst hb;rw [hB.cell] at h1;exact hno _ _ h1
theorem dk_upd {w W:World} {a:Option Addr} {n cap:Nat} {c:List Int} {B:Nat} {cs:Array Value} {T:TypeId} (h:Dk w a n cap c) (hU:Upd w W B cs T) (hf:0<n→∀ y,a=some y→y.block≠B):Dk W a n cap c:=by
 refine ⟨⟨h.row.1,?_⟩,h.nil,h.room,h.bytes,h.wd⟩;by_cases h0:n=0
 ·exact .inl h0
 ·obtain ⟨b,off,rfl,_,hc⟩:=h.row.at (by omega);exact .inr ⟨b,off,rfl,fun i hi=>(hU.cell ⟨b,off+i,none⟩ (show b≠B from hf (by omega) ⟨b,off,none⟩ rfl) rfl).trans (hc i hi)⟩
theorem issue_len {l:List Pr} {m r b d:Int} {ls:List Pr} {x c:Int} (h:IssueIs l m r b d ls x c):ls.length≤l.length+1:=by
 rcases h with ⟨_,rfl,_⟩ | ⟨_,_,rfl,_⟩ | ⟨_,_,_,rfl,_⟩ | ⟨_,_,_,_,rfl,_⟩ | ⟨_,_,_,_,rfl,_⟩ <;> simp
theorem tok_len {kd:Int} {t:Tm} {c:List Int} {o:List Pr} {me te mo dr:Int} {ls:List Wr} {o':List Pr} {r:Rc} {f:Int} (h:TokIs kd t c o me te mo dr ls o' r f):o'.length≤o.length+1:=by
 by_cases hf:f=0
 ·obtain ⟨bk,g,_,⟨p,q⟩ | ⟨_,_,q⟩ | ⟨_,k,b,l,x,_,_,⟨p,q⟩ | ⟨_,o2,tg,g2,hi,⟨p,q⟩ | ⟨_,l2,g3,_,⟨p,q⟩ | ⟨_,_,rfl,_,_⟩⟩⟩⟩⟩:=h
  ·rw [q.2.1];simp
  ·rw [q.2.1];simp
  ·rw [q.2.1];simp
  ·rw [q.2.1];simp
  ·rw [q.2.1];simp
  ·exact issue_len hi
 ·rw [(tok_no h hf).2.1];simp
theorem served_len {t:Tm} {c:List Int} {o:List Pr} {x:Od} {ls:List Wr} {o':List Pr} {r:Rc} {f:Int} (hs:ServedIs t c o x ls o' r f):o'.length≤o.length+1:=by
 rcases hs with ⟨_,_,rfl,_⟩ | ⟨_,hc⟩ | ⟨_,hc⟩ | ⟨_,hc⟩
 ·omega
 ·exact tok_len hc
 ·exact tok_len hc
 ·exact tok_len hc
theorem came_of {w:World} {a:Option Addr} {n cap:Nat} {l:List Pr} (h:ora.RowP w a n l) (h0:a=none→cap=0) (h1:n≤cap) (hl:l.length≤100000):ora.Came w a n cap l:=⟨h,h0,h1,by have:=h.1;omega⟩
theorem came_upd {w W:World} {a:Option Addr} {n cap:Nat} {l:List Pr} {B:Nat} {cs:Array Value} {T:TypeId} (h:ora.Came w a n cap l) (hU:Upd w W B cs T) (hf:0<n→∀ y,a=some y→y.block≠B):ora.Came W a n cap l:=⟨rowP_updK h.row hU hf,h.nil,h.le,h.small⟩
def Od.cs (x:Od):Array Value:=#[zI x.k,zI x.m,zI x.a,zI x.b,zI x.d]
structure RowO (w:World) (p:Option Addr) (n:Nat) (xs:List Od):Prop where
 len:xs.length=n
 row:n=0∨∃ b off,p=some ⟨b,off,none⟩∧b<w.heap.size∧∀ i j,i<n→j<5→w.cell? ⟨b,off+i*5+j,none⟩=(xs.getD i od0).cs[j]?
 wf:∀ i,i<n→wf5 (xs.getD i od0)
theorem RowO.below {w w':World} {p:Option Addr} {n:Nat} {xs:List Od} (h:RowO w p n xs) (hb:Below w.heap.size w w'):RowO w' p n xs:=by
 refine ⟨h.len,?_,h.wf⟩;rcases h.row with h0 | ⟨b,off,rfl,lb,hc⟩
 ·exact .inl h0
 ·exact .inr ⟨b,off,rfl,Nat.lt_of_lt_of_le lb hb.size,fun i j hi hj=>(hb.cell (p:=⟨b,off+i*5+j,none⟩) lb).trans (hc i j hi hj)⟩
theorem RowO.at {w:World} {p:Option Addr} {n:Nat} {xs:List Od} (h:RowO w p n xs) {i:Nat} (hi:i<n):∃ b off,p=some ⟨b,off,none⟩∧b<w.heap.size∧w.cell? ⟨b,off+i*5,none⟩=some (zI (xs.getD i od0).k)∧w.cell? ⟨b,off+i*5+1,none⟩=some (zI (xs.getD i od0).m)∧w.cell? ⟨b,off+i*5+2,none⟩=some (zI (xs.getD i od0).a)∧w.cell? ⟨b,off+i*5+3,none⟩=some (zI (xs.getD i od0).b)∧w.cell? ⟨b,off+i*5+4,none⟩=some (zI (xs.getD i od0).d):=by
 rcases h.row with h0 | ⟨b,off,rfl,lb,hc⟩
 ·omega
 ·exact ⟨b,off,rfl,lb,hc i 0 hi (by decide),hc i 1 hi (by decide),hc i 2 hi (by decide),hc i 3 hi (by decide),hc i 4 hi (by decide)⟩
structure Opn (W:World) (t:Tm) (pt:Option Addr) (lt ct:Nat) (a:Option Addr) (cap:Nat) (c:List Int) (ao:Option Addr) (no ko:Nat) (o:List Pr) (l:List Ev) (bk:List Cm):Prop where
 tc:acc.TCame W t pt lt ct
 dk:Dk W a 600 cap c
 oc:ora.Came W ao no ko o
 shop:Shop t c 600 l bk
theorem Opn.next {t:Tm} {pt:Option Addr} {lt ct:Nat} {a:Option Addr} {cap:Nat} {c:List Int} {ao:Option Addr} {no ko:Nat} {o:List Pr} {l:List Ev} {bk:List Cm} {W W':World} (h:Opn W t pt lt ct a cap c ao no ko o l bk) (hb:Below W.heap.size W W'):Opn W' t pt lt ct a cap c ao no ko o l bk:=⟨h.tc.below hb,h.dk.below hb,h.oc.below hb,h.shop⟩
structure St (W:World) (B:Nat) (t:Tm) (pt:Option Addr) (lt ct:Nat) (a:Option Addr) (cap:Nat) (c:List Int) (ao:Option Addr) (no ko:Nat) (o:List Pr) (l:List Ev) (bk:List Cm):Prop where
 box:Blk W B #[.slice pt lt ct,zI t.ff,zI t.fb,zI t.db,zI t.al,.slice a 600 cap,.slice ao no ko] 41
 is:Opn W t pt lt ct a cap c ao no ko o l bk
 farT:0<lt→∀ y,pt=some y→y.block≠B
 farO:0<no→∀ y,ao=some y→y.block≠B
theorem St.next {t:Tm} {pt:Option Addr} {lt ct:Nat} {a:Option Addr} {cap:Nat} {c:List Int} {ao:Option Addr} {no ko:Nat} {o:List Pr} {l:List Ev} {bk:List Cm} {W W':World} {B:Nat} (h:St W B t pt lt ct a cap c ao no ko o l bk) (hb:Below W.heap.size W W'):St W' B t pt lt ct a cap c ao no ko o l bk:=⟨h.box.next hb,h.is.next hb,h.farT,h.farO⟩
theorem came_updD {w W:World} {p:Option Addr} {n cap:Nat} {zs:List tar.Du} {B:Nat} {cs:Array Value} {T:TypeId} (h:tar.Came w p n cap zs) (hU:Upd w W B cs T) (hf:0<n→∀ y,p=some y→y.block≠B):tar.Came W p n cap zs:=by
 refine ⟨⟨h.row.1,?_⟩,h.nil,h.room,h.bytes,h.wf⟩;rcases h.row.2 with h0 | ⟨b,off,rfl,hc⟩
 ·exact .inl h0
 ·by_cases h0:n=0
  ·exact .inl h0
  ·have hne:b≠B:=hf (by omega) ⟨b,off,none⟩ rfl;exact .inr ⟨b,off,rfl,fun i hi=>⟨(hU.cell ⟨b,off+i*2,none⟩ hne rfl).trans (hc i hi).1,(hU.cell ⟨b,off+i*2+1,none⟩ hne rfl).trans (hc i hi).2⟩⟩
theorem no_u32 {t:Tm} {pt:Option Addr} {lt ct:Nat} {a:Option Addr} {cap:Nat} {c:List Int} {ao:Option Addr} {no ko:Nat} {o:List Pr} {l:List Ev} {bk:List Cm}:∀ (j:Nat) (z:Int),(#[.slice pt lt ct,zI t.ff,zI t.fb,zI t.db,zI t.al,.slice a 600 cap,.slice ao no ko]:Array Value)[j]?≠some (Value.int .u32 z):=fun j z=>by
 match j with
 | 0=>simp
 | 1=>simp
 | 2=>simp
 | 3=>simp
 | 4=>simp
 | 5=>simp
 | 6=>simp
 | j+7=>simp
theorem St.words {t:Tm} {pt:Option Addr} {lt ct:Nat} {a:Option Addr} {cap:Nat} {c:List Int} {ao:Option Addr} {no ko:Nat} {o:List Pr} {l:List Ev} {bk:List Cm} {W W':World} {B:Nat} (h:St W B t pt lt ct a cap c ao no ko o l bk) {a2:Option Addr} {cap2:Nat} {c2:List Int} {l2:List Ev} {bk2:List Cm} (hd:Dk W a2 600 cap2 c2) (hs:Shop t c2 600 l2 bk2) (hU:Upd W W' B #[.slice pt lt ct,zI t.ff,zI t.fb,zI t.db,zI t.al,.slice a2 600 cap2,.slice ao no ko] 41):St W' B t pt lt ct a2 cap2 c2 ao no ko o l2 bk2:=
 ⟨hU.blk,⟨⟨came_updD h.is.tc.ts hU h.farT,h.is.tc.wf⟩,dk_upd hd hU (dk_far hd h.box (no_u32 (t:=t) (pt:=pt) (lt:=lt) (ct:=ct) (a:=a) (cap:=cap) (c:=c) (ao:=ao) (no:=no) (ko:=ko) (o:=o) (l:=l) (bk:=bk))),came_upd h.is.oc hU h.farO,hs⟩,h.farT,h.farO⟩
theorem St.ora {t:Tm} {pt:Option Addr} {lt ct:Nat} {a:Option Addr} {cap:Nat} {c:List Int} {ao:Option Addr} {no ko:Nat} {o:List Pr} {l:List Ev} {bk:List Cm} {W W':World} {B:Nat} (h:St W B t pt lt ct a cap c ao no ko o l bk) {a2:Option Addr} {n2 k2:Nat} {o2:List Pr} (ho:ora.Came W a2 n2 k2 o2) (hf:0<n2→∀ y,a2=some y→y.block≠B) (hU:Upd W W' B #[.slice pt lt ct,zI t.ff,zI t.fb,zI t.db,zI t.al,.slice a 600 cap,.slice a2 n2 k2] 41):St W' B t pt lt ct a cap c a2 n2 k2 o2 l bk:=
 ⟨hU.blk,⟨⟨came_updD h.is.tc.ts hU h.farT,h.is.tc.wf⟩,dk_upd h.is.dk hU (dk_far h.is.dk h.box (no_u32 (t:=t) (pt:=pt) (lt:=lt) (ct:=ct) (a:=a) (cap:=cap) (c:=c) (ao:=ao) (no:=no) (ko:=ko) (o:=o) (l:=l) (bk:=bk))),came_upd ho hU hf,h.is.shop⟩,h.farT,hf⟩
def OpenPost (w:World) (e:Ending) (w':World):Prop:=∃ t pt lt ct a cap c ao no ko o l bk,e = .returned (.tuple #[.agg #[.slice pt lt ct,zI t.ff,zI t.fb,zI t.db,zI t.al,.slice a 600 cap,.slice ao no ko],.bool true])∧Opn w' t pt lt ct a cap c ao no ko o l bk∧Three bk∧3≤l.length∧l.length≤15∧o.length≤12∧(0<lt→∀ y,pt=some y→w.heap.size≤y.block)∧(0<no→∀ y,ao=some y→w.heap.size≤y.block)∧Below w.heap.size w w'
end vnd
namespace disk
open Go.RowKit cell
theorem nothing_done (v:Value) (w:World):Calls Tryz.prog 154 #[v] w fun e w'=>e = .returned (.tuple #[])∧w'=w:=by
 go_enter Tryz.func154,Tryz.ntmps154;go_wp2_with fail;go_end0;exact ⟨rfl,rfl⟩
theorem kappend:KAppend:=by
 intro w a n cap c b m cap2 r h hnil hcap hby hw h2 hnil2 hcap2 hby2 hw2;have hrl:=h2.1;by_cases hmay:1≤m∧m≤64
 ·have HE:Hid (Calls Tryz.prog 62 #[.slice a n cap,.func (.func 154) #[] #[]] w fun e w'=>EPost (fun _ W=>W=w) c e w'):=by
   refine each_any 154 #[] (fun _ W=>W=w) a n cap c w (fun k W hj=>by rw [hj];exact h) rfl hcap hw (fun _ _=>by kernel_rfl) ?_;intro k p m b o W hj hp hit hr h1 h2 h3;refine (nothing_done _ W).mono ?_;rintro e w' ⟨rfl,rfl⟩;exact ⟨rfl,hj⟩
  have HMY:Hid (RMay r):=⟨by omega,by omega⟩
  have HN:Hid (c.length=n∧r.length=m):=⟨h.1,hrl⟩
  have HL:Hid (∀ p:Nat,p≤2048→n≤2048→Calls Tryz.prog 155 #[.slice b m cap2,zI (p:Int),zI (n:Int)] w fun e w'=>∃ V,e = .returned V∧Lw w' w.heap.size V (appW c p r)∧Below w.heap.size w w'):=fun p hp hn=>laying_any b m cap2 r c p n w h2 hmay.1 hmay.2 hp hn h.1;obtain ⟨hm1,hm2⟩:=hmay;have d1:decide ((m:Int)<1)=false:=by simp;omega
  have d2:decide ((64:Int)<(m:Int))=false:=by simp;omega
  clear h hnil hcap hby hw h2 hnil2 hcap2 hby2 hw2 hrl;go_enter Tryz.func108,Tryz.ntmps108;go_wp2_with fail;refine HE.o.mono ?_;rintro e w1 ⟨x,f,k,rfl,hj,hi⟩;subst hj;have HI:Hid ((¬ May c∧x=0∧f=1)∨(May c∧lenAt c (repD c).2<0∧x=0∧f=3)∨(May c∧lenAt c (repD c).2=0∧repD c=itD c k∧x=((repD c).2:Int)∧f=0)):=hi;clear hi HE d1 d2;by_cases hf:f=0
  ·obtain ⟨hmy,hl0,hx⟩:May c∧lenAt c (repD c).2=0∧x=((repD c).2:Int):=by
    rcases HI.o with ⟨_,_,e⟩ | ⟨_,_,_,e⟩ | ⟨q1,q2,_,q4,_⟩
    ·rw [hf] at e;exact absurd e (by decide)
    ·rw [hf] at e;exact absurd e (by decide)
    ·exact ⟨q1,q2,q4⟩
   have HPB:Hid ((repD c).2≤n):=by show _≤_;rw [← HN.o.1];exact rep_bound c
   have HFU:Hid (n≤(repD c).2+m→AppIs c r [] 16):=fun hh=> .inr (.inr (.inr (.inl ⟨HMY.o,hmy,hl0,by rw [HN.o.1,HN.o.2];exact hh,rfl,rfl⟩)));have HOK:Hid ((repD c).2+m<n→AppIs c r (appW c (repD c).2 r) 0):=fun hh=> .inr (.inr (.inr (.inr ⟨HMY.o,hmy,hl0,by rw [HN.o.1,HN.o.2];exact hh,rfl,rfl⟩)));have hn2:n≤2048:=by have:=hmy.2;rw [HN.o.1] at this;exact this
   subst hf;subst hx;clear HI hmy hl0 HMY;generalize (repD c).2=p at *;have hpn:=HPB.o;clear HPB;by_cases hfu:n≤p+m
   ·have HA:Hid (AppIs c r [] 16):=HFU.o hfu;have e1:decide ((n:Int)<(p:Int)+1+(m:Int))=true:=by simp;omega
    clear HFU HOK HL;go_wp2_with fail;go_ret2;exact ⟨none,0,0,[],16,rfl,RowW.nil _ _,(fun x hx=>by cases hx),Nat.le_refl _,Nat.zero_le _,HA.o,Below.refl _ _⟩
   ·have HA:Hid (AppIs c r (appW c p r) 0):=HOK.o (by omega);have e1:decide ((n:Int)<(p:Int)+1+(m:Int))=false:=by simp;omega
    have HL1:=HL.o p (by omega) hn2;have HLY:Hid (Calls Tryz.prog 155 #[.slice b m cap2,zI (p:Int),zI (n:Int)] w1 fun e w'=>∃ V,e = .returned V∧Lw w' w1.heap.size V (appW c p r)∧Below w1.heap.size w1 w'):=HL1;clear HFU HOK HL HL1;go_wp2_with fail;refine HLY.o.mono ?_;rintro e w2 ⟨V,rfl,hlw,hb⟩;obtain ⟨va,vc,rfl,hrow,_,hle,_⟩:=hlw.row
    have HNW:Hid (∀ x,va=some x→w1.heap.size≤x.block):=fun x hx=>by
     subst hx;exact (World.ownsRow.lt hlw x.block rfl).1
    have HRW:Hid (RowW w2 va (appW c p r).length (appW c p r)):=hrow;have HLE:Hid ((appW c p r).length≤vc):=hle;have HFW:Hid ((appW c p r).length≤100000):=Nat.le_trans (app_few HA.o) (by decide);have HB2:Hid (Below w1.heap.size w1 w2):=hb;clear hlw hb hrow hle HLY;generalize appW c p r=ls at *;generalize hzl:ls.length=zl at *;clear hzl;go_wp2_with fail;go_ret2;exact ⟨va,_,vc,ls,0,rfl,HRW.o,HNW.o,HLE.o,HFW.o,HA.o,HB2.o⟩
  ·have HA:Hid (AppIs c r [] f):=by
    rcases HI.o with ⟨q1,_,rfl⟩ | ⟨q1,q2,_,rfl⟩ | ⟨_,_,_,_,e⟩
    ·exact .inr (.inl ⟨HMY.o,q1,rfl,rfl⟩)
    ·exact .inr (.inr (.inl ⟨HMY.o,q1,q2,rfl,rfl⟩))
    ·exact absurd e hf
   have hne:(f != 0)=true:=by simpa using hf
   clear HI hf HL;go_wp2_with fail;go_ret2;exact ⟨none,0,0,[],f,rfl,RowW.nil _ _,(fun x hx=>by cases hx),Nat.le_refl _,Nat.zero_le _,HA.o,Below.refl _ _⟩
 ·have HA:Hid (AppIs c r [] 1):= .inl ⟨fun h=>hmay ⟨by rw [← hrl];exact h.1,by rw [← hrl];exact h.2⟩,rfl,rfl⟩;clear h hnil hcap hby hw h2 hnil2 hcap2 hby2 hw2 hrl;go_enter Tryz.func108,Tryz.ntmps108;by_cases h1:1≤m
  ·have d1:decide ((m:Int)<1)=false:=by simp;omega
   have d2:decide ((64:Int)<(m:Int))=true:=by simp;omega
   go_wp2_with fail;go_ret2;exact ⟨none,0,0,[],1,rfl,RowW.nil _ _,(fun x hx=>by cases hx),Nat.le_refl _,Nat.zero_le _,HA.o,Below.refl _ _⟩
  ·have d1:decide ((m:Int)<1)=true:=by simp;omega
   go_wp2_with fail;go_ret2;exact ⟨none,0,0,[],1,rfl,RowW.nil _ _,(fun x hx=>by cases hx),Nat.le_refl _,Nat.zero_le _,HA.o,Below.refl _ _⟩
end disk
namespace book
open Go.RowKit
def findV (B:Nat):Value:= .func (.func 84) #[] #[.pointer (some ⟨B,0,none⟩)]
theorem asked_any (B:Nat) (me xm xr xn xo xb xf:Int) (dp:Option Addr) (dn dc:Nat) (sp:Option Addr) (sn sc:Nat) (W:World) (hc:W.cell? ⟨B,0,none⟩=some (zI me)) (hB:B<W.heap.size) :
  Calls Tryz.prog 84 #[.agg #[zI xm,zI xr,zI xn,zI xo,zI xb,zI xf,.slice dp dn dc,.slice sp sn sc],.pointer (some ⟨B,0,none⟩)] W fun e w'=>e = .returned (.bool (xm == me))∧Below W.heap.size W w':=by
 have hc2:(W.alloc (.cells #[zI xm,zI xr,zI xn,zI xo,zI xb,zI xf,.slice dp dn dc,.slice sp sn sc] 54)).cell? ⟨B,0,none⟩=some (zI me):=by rw [World.cell?_alloc_lt W _ _ hB];exact hc
 have HB:Hid (Below W.heap.size W (W.alloc (.cells #[zI xm,zI xr,zI xn,zI xo,zI xb,zI xf,.slice dp dn dc,.slice sp sn sc] 54))):=(Below.refl _ _).alloc (Nat.le_refl _) _;clear hc hB;go_enter Tryz.func84,Tryz.ntmps84;go_wp2_with fail;go_ret;exact ⟨rfl,HB.o⟩
theorem index_cust (B n cap:Nat) (me:Int) (a:Option Addr) (l:List Cu) (w:World) (hc:w.cell? ⟨B,0,none⟩=some (zI me)) (hr:RowC w a n l) (hn:n≤2000000) :
  Calls Tryz.prog 83 #[.slice a n cap,findV B] w fun e w'=>∃ x,e = .returned (zI x)∧FoundIs l me x∧Below w.heap.size w w':=by
 have hB:=World.block_lt_of_cell? w _ hc
 have HC:Hid (∀ wr,Below w.heap.size w wr→∀ (xm xr xn xo xb xf:Int) (dp:Option Addr) (dn dc:Nat) (sp:Option Addr) (sn sc:Nat),Calls Tryz.prog 84 #[.agg #[zI xm,zI xr,zI xn,zI xo,zI xb,zI xf,.slice dp dn dc,.slice sp sn sc],.pointer (some ⟨B,0,none⟩)] wr fun e w'=>e = .returned (.bool (xm == me))∧Below wr.heap.size wr w'):=fun wr hb xm xr xn xo xb xf dp dn dc sp sn sc=>
  asked_any B me xm xr xn xo xb xf dp dn dc sp sn sc wr ((hb.cell (p:=⟨B,0,none⟩) hB).trans hc) (Nat.lt_of_lt_of_le hB hb.size)
 have HR:Hid (RowC w a n l):=hr;have HL:Hid (l.length=n):=hr.1;clear hc hB hr;unfold findV;go_enter Tryz.func83,Tryz.ntmps83;go_wp2_with fail;go_loopw [8] (fun i wr=>∃ k:Nat,k≤n∧i=zI (k:Int)∧(∀ j,j<k→(l.getD j cu0).me≠me)∧Below w.heap.size w wr) (fun i _=>n - (intOf i).toNat)
 case atStart=>exact ⟨0,Nat.zero_le _,rfl,(fun j hj=>absurd hj (Nat.not_lt_zero _)),Below.refl _ _⟩
 case round=>
  obtain ⟨k,hk,rfl,hal,hb⟩:=hrel;have HA:Hid (∀ j,j<k→(l.getD j cu0).me≠me):=hal;have HB:Hid (Below w.heap.size w wr):=hb;clear hal hb;by_cases hlt:k<n
  ·obtain ⟨b2,o2,rfl,l2,hc2⟩:=HR.o.2.resolve_left (by omega);have hce:∀ j,j<8→wr.cell? ⟨b2,o2+k*8+j,none⟩=(l.getD k cu0).cs[j]?:=fun j hj=>(HB.o.cell (p:=⟨b2,o2+k*8+j,none⟩) l2).trans (hc2 k j hlt hj)
   have HME:Hid (∀ z,z=(l.getD k cu0).me→(z=me→FoundIs l me (k:Int))∧(z≠me→∀ j,j<k+1→(l.getD j cu0).me≠me)):=fun z hz=>⟨fun e=> .inl ⟨k,by rw [HL.o];exact hlt,by rw [← hz];exact e,HA.o,rfl⟩,fun e j hj=>by
    by_cases q:j=k
    ·subst q;rw [← hz];exact e
    ·exact HA.o j (by omega)⟩
   clear hc2 l2;obtain ⟨⟨xm,xr,xn,xo,xb,xf,dp,dn,dc,sp,sn,sc⟩,hx⟩:∃ x,x=l.getD k cu0:=⟨_,rfl⟩
   have HMX:=HME.o xm (by rw [← hx]);have HY:Hid (xm=me→FoundIs l me (k:Int)):=HMX.1;have HNO:Hid (xm≠me→∀ j,j<k+1→(l.getD j cu0).me≠me):=HMX.2;rw [← hx] at hce;clear hx HME HMX;have c0:wr.cell? ⟨b2,o2+k*8,none⟩=some (zI xm):=hce 0 (by decide);have c1:wr.cell? ⟨b2,o2+k*8+1,none⟩=some (zI xr):=hce 1 (by decide);have c2:wr.cell? ⟨b2,o2+k*8+2,none⟩=some (zI xn):=hce 2 (by decide);have c3:wr.cell? ⟨b2,o2+k*8+3,none⟩=some (zI xo):=hce 3 (by decide);have c4:wr.cell? ⟨b2,o2+k*8+4,none⟩=some (zI xb):=hce 4 (by decide);have c5:wr.cell? ⟨b2,o2+k*8+5,none⟩=some (zI xf):=hce 5 (by decide);have c6:wr.cell? ⟨b2,o2+k*8+6,none⟩=some (.slice dp dn dc):=hce 6 (by decide);have c7:wr.cell? ⟨b2,o2+k*8+7,none⟩=some (.slice sp sn sc):=hce 7 (by decide);clear hce;have hcall:=HC.o wr HB.o xm xr xn xo xb xf dp dn dc sp sn sc;clear HC;by_cases he:xm=me
   ·have HF:Hid (FoundIs l me (k:Int)):=HY.o he;rw [show (xm == me)=true by simpa using he] at hcall;have HCL:Hid (Calls Tryz.prog 84 #[.agg #[zI xm,zI xr,zI xn,zI xo,zI xb,zI xf,.slice dp dn dc,.slice sp sn sc],.pointer (some ⟨B,0,none⟩)] wr fun e w'=>e = .returned (.bool true)∧Below wr.heap.size wr w'):=hcall;clear hcall he;go_wp2_with fail;refine HCL.o.mono ?_;rintro e w' ⟨rfl,hb'⟩;have HB':Hid (Below w.heap.size w w'):=bel_step HB.o hb';clear hb' c0 c1 c2 c3 c4 c5 c6 c7;go_wp2_with fail;go_ret;exact ⟨(k:Int),rfl,HF.o,HB'.o⟩
   ·have HF:Hid (∀ j,j<k+1→(l.getD j cu0).me≠me):=HNO.o he;rw [show (xm == me)=false by simpa using he] at hcall;have HCL:Hid (Calls Tryz.prog 84 #[.agg #[zI xm,zI xr,zI xn,zI xo,zI xb,zI xf,.slice dp dn dc,.slice sp sn sc],.pointer (some ⟨B,0,none⟩)] wr fun e w'=>e = .returned (.bool false)∧Below wr.heap.size wr w'):=hcall;clear hcall he;go_wp2_with fail;refine HCL.o.mono ?_;rintro e w' ⟨rfl,hb'⟩;have HB':Hid (Below w.heap.size w w'):=bel_step HB.o hb';clear hb' c0 c1 c2 c3 c4 c5 c6 c7;go_wp2_with fail;go_roundw
    case rel=>exact ⟨k+1,by omega,by go_num,HF.o,HB'.o⟩
    case measure=>simp [intOf];omega
  ·obtain rfl:k=n:=by omega
   have HFA:Hid (FoundIs l me (-1)):= .inr ⟨fun j hj=>HA.o j (by rw [← HL.o];exact hj),rfl⟩;go_wp2_with fail;go_ret;exact ⟨-1,rfl,HFA.o,HB.o⟩
theorem pfind (w:World) (p:Option Addr) (n cap:Nat) (l:List Cu) (me:Int) (hr:RowC w p n l) (hn:n≤2000000):Calls Tryz.prog 51 #[.agg #[.slice p n cap],zI me] w fun e w'=>FindPost w l me e w':=by
 have hmf:∀ (fn:Fn) (first cap:Array Value) (w:World),(Instr.makeFunc fn first cap).run Tryz.prog w = .ok (.func fn first cap) w:=fun _ _ _ _=>rfl;obtain ⟨W1,HWW,HK1,HM1,HB1,-⟩:=sh2 w #[.slice p n cap] 46 #[zI me] 3;have HR:Hid (RowC w p n l):=hr;have HN:Hid (n≤2000000):=hn;clear hr hn;go_enter Tryz.func51,Tryz.ntmps51;go_upto_region 1 with fail
 rw [HWW.o];clear HWW;have c0:W1.cell? ⟨w.heap.size,0,none⟩=some (.slice p n cap):=HK1.o.cell 0;have hI:=index_cust (w.heap.size+1) n cap me p l W1 (HM1.o.cell 0) (HR.o.below HB1.o) HN.o;unfold findV at hI;have HI:Hid (Calls Tryz.prog 83 #[.slice p n cap,.func (.func 84) #[] #[.pointer (some ⟨w.heap.size+1,0,none⟩)]] W1 fun e w'=>∃ x,e = .returned (zI x)∧FoundIs l me x∧Below W1.heap.size W1 w'):=hI;clear hI HK1 HM1 HR HN;go_wp2_with fail;refine HI.o.mono ?_;rintro e w' ⟨x,rfl,hx,hb⟩;have HB':Hid (Below w.heap.size w w'):=bel_step HB1.o hb;clear hb HI HB1 c0;by_cases hneg:x<0
 ·have HF:Hid (FindIs l me 0 18):=by
   rcases hx with ⟨k,_,_,_,e⟩ | ⟨h,_⟩
   ·omega
   ·exact .inr ⟨h,rfl,rfl⟩
  clear hx;go_wp2_with fail;go_ret2;exact ⟨0,18,rfl,HF.o,HB'.o⟩
 ·have HF:Hid (FindIs l me x 0):=by
   rcases hx with ⟨k,h1,h2,h3,e⟩ | ⟨h,e⟩
   ·exact .inl ⟨k,h1,h2,h3,e,rfl⟩
   ·omega
  clear hx;go_wp2_with fail;go_ret2;exact ⟨x,0,rfl,HF.o,HB'.o⟩
end book
namespace vnd
open disk (RepIs AppIs)
open book (Ev ev0 EMay evL evOf EncIs DecIs Cm cm0 So so0 BookIs Sees ECame FirstAt NoneAt)
open acc (Ac Tm Bi TCame ACame)
open cell (Wr RowU)
open Go.RowKit
def CusP (w:World) (bk:List Cm) (me:Int) (e:Ending) (w':World):Prop:=Below w.heap.size w w'∧((e = .returned (.tuple #[.agg #[zI 0,zI 0,zI 0,zI 0,zI 0,zI 0,zS,zS],zI 18])∧NoneAt bk me) ∨
 ∃ k dp dn dc sp sn sc,e = .returned (.tuple #[.agg #[zI (bk.getD k cm0).a.me,zI (bk.getD k cm0).a.rv,zI (bk.getD k cm0).a.nx,zI (bk.getD k cm0).a.mo,zI (bk.getD k cm0).a.bo,zI (bk.getD k cm0).a.fr,.slice dp dn dc,.slice sp sn sc],zI 0])∧FirstAt bk me k∧k<bk.length∧tar.Came w dp dn dc (bk.getD k cm0).a.ds∧book.RowS w sp sn (bk.getD k cm0).so)
theorem find_first {xs:List book.Cu} {bk:List Cm} {me x f:Int} (hl:xs.length=bk.length) (hn:∀ i,i<xs.length→book.Nums (xs.getD i book.cu0) (bk.getD i cm0).a) (h:book.FindIs xs me x f):(f=18∧NoneAt bk me)∨(∃ k:Nat,x=(k:Int)∧f=0∧FirstAt bk me k∧k<xs.length):=by
 rcases h with ⟨k,h1,h2,h3,h4,h5⟩ | ⟨h1,h2,h3⟩
 ·refine .inr ⟨k,h4,h5,⟨by rw [← hl];exact h1,by rw [← (hn k h1).1];exact h2,fun j hj=>by rw [← (hn j (by omega)).1];exact h3 j hj⟩,h1⟩
 ·exact .inl ⟨h3,fun j hj=>by rw [← (hn j (by rw [hl];exact hj)).1];exact h1 j (by rw [hl];exact hj)⟩
theorem pcust (p2:Option Addr) (m2 c2:Nat) (xs:List book.Cu) (bk:List Cm) (a:Option Addr) (n cap:Nat) (q me:Int) (w:World) (h:Sees w p2 m2 xs bk) (hm:m2≤120):Calls Tryz.prog 24 #[.agg #[.slice p2 m2 c2,.slice a n cap,zI q],zI me] w fun e w'=>CusP w bk me e w':=by
 have HSE:Hid (Sees w p2 m2 xs bk):=h;clear h;obtain ⟨W0,HWW,H0s,H0r,H0B,hs0⟩:=sh2 w #[.slice p2 m2 c2,.slice a n cap,zI q] 87 #[zI 0,zI 0,zI 0,zI 0,zI 0,zI 0,zS,zS] 54;go_enter Tryz.func24,Tryz.ntmps24;go_upto_region 1 with fail
 rw [HWW.o];clear HWW;have HFI:Hid (Calls Tryz.prog 51 #[.agg #[.slice p2 m2 c2],zI me] W0 fun e w'=>book.FindPost W0 xs me e w'):=book.pfind W0 p2 m2 c2 xs me (HSE.o.below H0B.o).row (by omega);have qs0:W0.cell? ⟨w.heap.size,0,none⟩=some (.slice p2 m2 c2):=H0s.o.cell 0
 go_wp2_with (first
  | (refine zqw rfl rfl rfl H0s zqu87 ?_)
  | (refine zqw rfl rfl rfl H0r zqu54 ?_)
  | fail)
 refine HFI.o.mono ?_;rintro e w1 ⟨x,f,rfl,hfi,hb1⟩;have H1s:=shN H0s hb1;have H1r:=shN H0r hb1;have H1B:=shB H0B hb1;have hsw1:W0.heap.size≤w1.heap.size:=hb1.size;clear hb1 H0s H0r H0B;clear qs0;have hff:=find_first HSE.o.len HSE.o.num hfi;clear hfi HFI;rcases hff with ⟨rfl,hnone⟩ | ⟨k,rfl,rfl,hfirst,hkx⟩
 ·have HNO:Hid (NoneAt bk me):=hnone;clear hnone
  go_wp2_with (first
   | (refine zql rfl rfl rfl rfl zqu54 (by simp [Value.oneCell']) H1r rfl ?_)
   | (refine zqw rfl rfl rfl H1s zqu87 ?_)
   | (refine zqw rfl rfl rfl H1r zqu54 ?_)
   | fail)
  intro W2 hU;have H2s:=shK hU H1s (by omega);have H2r:Hid (Blk W2 (w.heap.size+1) #[zI 0,zI 0,zI 0,zI 0,zI 0,zI 0,zS,zS] 54):=hU.blk;have H2B:=shV hU H1B (by omega);have hsW2:W2.heap.size=w1.heap.size:=hU.size;clear hU H1s H1r H1B;have Rr0:Hid (W2.cell? ⟨w.heap.size+1,0,none⟩=some (zI 0)):=H2r.o.cell 0;have Rr1:Hid (W2.cell? ⟨w.heap.size+1,1,none⟩=some (zI 0)):=H2r.o.cell 1;have Rr2:Hid (W2.cell? ⟨w.heap.size+1,2,none⟩=some (zI 0)):=H2r.o.cell 2;have Rr3:Hid (W2.cell? ⟨w.heap.size+1,3,none⟩=some (zI 0)):=H2r.o.cell 3;have Rr4:Hid (W2.cell? ⟨w.heap.size+1,4,none⟩=some (zI 0)):=H2r.o.cell 4;have Rr5:Hid (W2.cell? ⟨w.heap.size+1,5,none⟩=some (zI 0)):=H2r.o.cell 5;have Rr6:Hid (W2.cell? ⟨w.heap.size+1,6,none⟩=some (zS)):=H2r.o.cell 6;have Rr7:Hid (W2.cell? ⟨w.heap.size+1,7,none⟩=some (zS)):=H2r.o.cell 7;go_wp2_with fail;exact bodyPost_ret (v:= .tuple #[.agg #[zI 0,zI 0,zI 0,zI 0,zI 0,zI 0,zS,zS],zI 18]) (by simp [results,Tryz.results24,Rr0.o,Rr1.o,Rr2.o,Rr3.o,Rr4.o,Rr5.o,Rr6.o,Rr7.o,go_sem]) rfl ⟨H2B.o,.inl ⟨rfl,HNO.o⟩⟩
 ·have HFT:Hid (FirstAt bk me k):=hfirst;have HSW:Hid (Sees w1 p2 m2 xs bk):=HSE.o.below H1B.o;have HKB:Hid (k<bk.length):=by rw [← HSE.o.len];exact hkx
  have HDS:Hid (tar.Came w (xs.getD k book.cu0).dp (xs.getD k book.cu0).dn (xs.getD k book.cu0).dc (bk.getD k cm0).a.ds∧book.RowS w (xs.getD k book.cu0).sp (xs.getD k book.cu0).sn (bk.getD k cm0).so):=⟨HSE.o.ds k hkx,HSE.o.so k hkx⟩
  obtain ⟨cb,co,hpp,hcl,hcc⟩:∃ b off,p2=some ⟨b,off,none⟩∧b<w1.heap.size∧∀ i j,i<m2→j<8→w1.cell? ⟨b,off+i*8+j,none⟩=(xs.getD i book.cu0).cs[j]?:=by
   rcases HSW.o.row.2 with h | h
   ·have:=HSW.o.row.1;omega
   ·exact h
  subst hpp;have hkm:k<m2:=by have:=HSW.o.row.1;omega
  have hnm:=HSW.o.num k hkx;have hds:=HSW.o.ds k hkx;have y0:w1.cell? ⟨cb,co+k*8,none⟩=some (zI (bk.getD k cm0).a.me):=(hcc k 0 hkm (by decide)).trans (by rw [← hnm.1];rfl);have y1:w1.cell? ⟨cb,co+k*8+1,none⟩=some (zI (bk.getD k cm0).a.rv):=(hcc k 1 hkm (by decide)).trans (by rw [← hnm.2.1];rfl);have y2:w1.cell? ⟨cb,co+k*8+2,none⟩=some (zI (bk.getD k cm0).a.nx):=(hcc k 2 hkm (by decide)).trans (by rw [← hnm.2.2.1];rfl);have y3:w1.cell? ⟨cb,co+k*8+3,none⟩=some (zI (bk.getD k cm0).a.mo):=(hcc k 3 hkm (by decide)).trans (by rw [← hnm.2.2.2.1];rfl);have y4:w1.cell? ⟨cb,co+k*8+4,none⟩=some (zI (bk.getD k cm0).a.bo):=(hcc k 4 hkm (by decide)).trans (by rw [← hnm.2.2.2.2.1];rfl);have y5:w1.cell? ⟨cb,co+k*8+5,none⟩=some (zI (bk.getD k cm0).a.fr):=(hcc k 5 hkm (by decide)).trans (by rw [← hnm.2.2.2.2.2];rfl);have y6:w1.cell? ⟨cb,co+k*8+6,none⟩=some (.slice (xs.getD k book.cu0).dp (xs.getD k book.cu0).dn (xs.getD k book.cu0).dc):=hcc k 6 hkm (by decide);have y7:w1.cell? ⟨cb,co+k*8+7,none⟩=some (.slice (xs.getD k book.cu0).sp (xs.getD k book.cu0).sn (xs.getD k book.cu0).sc):=hcc k 7 hkm (by decide);clear hcc hnm;generalize (xs.getD k book.cu0).dp=dp at *;generalize (xs.getD k book.cu0).dn=dn at *;generalize (xs.getD k book.cu0).dc=dc at *;generalize hy:(bk.getD k cm0).a=y at *;have HY:Hid ((bk.getD k cm0).a=y):=hy;clear hy;generalize (xs.getD k book.cu0).sp=sp at *;generalize (xs.getD k book.cu0).sn=sn at *;generalize (xs.getD k book.cu0).sc=sc at *;clear hds hfirst hkx HSW HSE;have qs0:w1.cell? ⟨w.heap.size,0,none⟩=some (.slice (some ⟨cb,co,none⟩) m2 c2):=H1s.o.cell 0
  go_wp2_with (first
   | (refine zql rfl rfl rfl rfl zqu54 (by simp [Value.oneCell']) H1r rfl ?_)
   | (refine zqw rfl rfl rfl H1s zqu87 ?_)
   | (refine zqw rfl rfl rfl H1r zqu54 ?_)
   | fail)
  intro W2 hU;have H2s:=shK hU H1s (by omega);have H2r:Hid (Blk W2 (w.heap.size+1) #[zI y.me,zI y.rv,zI y.nx,zI y.mo,zI y.bo,zI y.fr,.slice dp dn dc,.slice sp sn sc] 54):=hU.blk;have H2B:=shV hU H1B (by omega);have hsW2:W2.heap.size=w1.heap.size:=hU.size;clear hU H1s H1r H1B;clear qs0;obtain ⟨Rr0,Rr1,Rr2,Rr3,Rr4,Rr5,Rr6,Rr7⟩:=shc8 H2r;go_wp2_with fail;exact bodyPost_ret (v:= .tuple #[.agg #[zI y.me,zI y.rv,zI y.nx,zI y.mo,zI y.bo,zI y.fr,.slice dp dn dc,.slice sp sn sc],zI 0]) (by simp [results,Tryz.results24,Rr0.o,Rr1.o,Rr2.o,Rr3.o,Rr4.o,Rr5.o,Rr6.o,Rr7.o,go_sem]) rfl ⟨H2B.o,.inr ⟨k,dp,dn,dc,sp,sn,sc,by rw [HY.o],HFT.o,HKB.o,by rw [HY.o];exact HDS.o.1,HDS.o.2⟩⟩
theorem puntag (kd me mo dr:Int) (F:Value) (l:Bi) (b:Ac) (p:Option Addr) (ln cp:Nat) (cl am:Int) (w:World) (h:(kd=4∧cl=2∧am=b.rv)∨(kd≠4∧cl=0∧am=l.un)):Calls Tryz.prog 124 #[.agg #[zI kd,zI me,zI mo,zI dr,F],.agg #[zI l.id,zI l.te,zI l.de,zI l.fe,zI l.pr,zI l.ch,zI l.un],.agg #[zI b.me,zI b.rv,zI b.nx,zI b.mo,zI b.bo,zI b.fr,.slice p ln cp]] w fun e w'=>e = .returned (.agg #[zI cl,zI l.id,zI am,zI 0])∧Below w.heap.size w w':=by
 obtain ⟨W0,HWW,H0d,H0l,H0b,H0r,H0B,hs0⟩:=sh4 w #[zI kd,zI me,zI mo,zI dr,F] 166 #[zI l.id,zI l.te,zI l.de,zI l.fe,zI l.pr,zI l.ch,zI l.un] 68 #[zI b.me,zI b.rv,zI b.nx,zI b.mo,zI b.bo,zI b.fr,.slice p ln cp] 51 #[zI 0,zI 0,zI 0,zI 0] 96;go_enter Tryz.func124,Tryz.ntmps124;go_upto_region 1 with fail
 rw [HWW.o];clear HWW;rcases h with ⟨h1,rfl,rfl⟩ | ⟨h1,rfl,rfl⟩
 ·have d1:(kd == 4)=true:=by simpa using h1
  clear h1;have qd0:W0.cell? ⟨w.heap.size,0,none⟩=some (zI kd):=H0d.o.cell 0;have ql0:W0.cell? ⟨w.heap.size+1,0,none⟩=some (zI l.id):=H0l.o.cell 0;have qb1:W0.cell? ⟨w.heap.size+1+1,1,none⟩=some (zI b.rv):=H0b.o.cell 1
  go_wp2_with (first
   | (refine zql rfl rfl rfl rfl zqu96 (by simp [Value.oneCell']) H0r rfl ?_)
   | (refine zqw rfl rfl rfl H0d zqu166 ?_)
   | (refine zqw rfl rfl rfl H0l zqu68 ?_)
   | (refine zqw rfl rfl rfl H0b zqu51 ?_)
   | (refine zqw rfl rfl rfl H0r zqu96 ?_)
   | fail)
  intro W2 hU;have H1d:=shK hU H0d (by omega);have H1l:=shK hU H0l (by omega);have H1b:=shK hU H0b (by omega);have H1r:Hid (Blk W2 (w.heap.size+1+1+1) #[zI 2,zI l.id,zI b.rv,zI 0] 96):=hU.blk;have H1B:=shV hU H0B (by omega);have hsW2:W2.heap.size=W0.heap.size:=hU.size;clear hU H0d H0l H0b H0r H0B;clear qd0 ql0 qb1;have R0:Hid (W2.cell? ⟨w.heap.size+1+1+1,0,none⟩=some (zI 2)):=H1r.o.cell 0;have R1:Hid (W2.cell? ⟨w.heap.size+1+1+1,1,none⟩=some (zI l.id)):=H1r.o.cell 1;have R2:Hid (W2.cell? ⟨w.heap.size+1+1+1,2,none⟩=some (zI b.rv)):=H1r.o.cell 2;have R3:Hid (W2.cell? ⟨w.heap.size+1+1+1,3,none⟩=some (zI 0)):=H1r.o.cell 3;go_wp2_with fail;exact bodyPost_ret (v:= .agg #[zI 2,zI l.id,zI b.rv,zI 0]) (by simp [results,Tryz.results124,R0.o,R1.o,R2.o,R3.o,go_sem]) rfl ⟨rfl,H1B.o⟩
 ·have d1:(kd == 4)=false:=by simpa using h1
  clear h1;have qd0:W0.cell? ⟨w.heap.size,0,none⟩=some (zI kd):=H0d.o.cell 0;have ql0:W0.cell? ⟨w.heap.size+1,0,none⟩=some (zI l.id):=H0l.o.cell 0;have ql6:W0.cell? ⟨w.heap.size+1,6,none⟩=some (zI l.un):=H0l.o.cell 6
  go_wp2_with (first
   | (refine zql rfl rfl rfl rfl zqu96 (by simp [Value.oneCell']) H0r rfl ?_)
   | (refine zqw rfl rfl rfl H0d zqu166 ?_)
   | (refine zqw rfl rfl rfl H0l zqu68 ?_)
   | (refine zqw rfl rfl rfl H0b zqu51 ?_)
   | (refine zqw rfl rfl rfl H0r zqu96 ?_)
   | fail)
  intro W2 hU;have H1d:=shK hU H0d (by omega);have H1l:=shK hU H0l (by omega);have H1b:=shK hU H0b (by omega);have H1r:Hid (Blk W2 (w.heap.size+1+1+1) #[zI 0,zI l.id,zI l.un,zI 0] 96):=hU.blk;have H1B:=shV hU H0B (by omega);have hsW2:W2.heap.size=W0.heap.size:=hU.size;clear hU H0d H0l H0b H0r H0B;clear qd0 ql0 ql6;obtain ⟨R0,R1,R2,R3⟩:=shc4 H1r;go_wp2_with fail;exact bodyPost_ret (v:= .agg #[zI 0,zI l.id,zI l.un,zI 0]) (by simp [results,Tryz.results124,R0.o,R1.o,R2.o,R3.o,go_sem]) rfl ⟨rfl,H1B.o⟩
open Go.ChangeShapes Go.WideShapes Go.ChangeAt Go.Deep
def Od.v (x:Od):Value:= .agg #[zI x.k,zI x.m,zI x.a,zI x.b,zI x.d]
theorem od_cells {H:Type} {enc:TypeId × Value→H} {W:World} {b1:Nat} {spare:Nat→Bool} {held:Bool} {fuel:Nat} {cs:List Value} {x:DataW H × List MemPlace}
  (hsz:cs.length=5) (hf:DataW.trod enc Tryz.prog W b1 spare held fuel 75 cs=some x) :
  ∃ x:Od,cs=x.cs.toList∧wf5 x:=by
 have hu:=Tryz.underlying75;have ci:Tryz.prog.cellsOf 3=1:=by kernel_rfl
 obtain ⟨c0,c1,c2,c3,c4,rfl⟩:∃ c0 c1 c2 c3 c4,cs=[c0,c1,c2,c3,c4]:=by
  match cs,hsz with
  | [c0,c1,c2,c3,c4],_=>exact ⟨c0,c1,c2,c3,c4,rfl⟩
 obtain ⟨xs,n,_,_,_,hlen,hg⟩:=DataW.trod_struct hu hf
 match xs,hlen with
 | [y0,y1,y2,y3,y4],_=>
  have g0:=hg 0 _ rfl;have g1:=hg 1 _ rfl;have g2:=hg 2 _ rfl;have g3:=hg 3 _ rfl;have g4:=hg 4 _ rfl;simp [ci] at g0 g1 g2 g3 g4;obtain ⟨x0,e0,-,w0⟩:=DataW.trod_int Tryz.underlying3 g0;obtain ⟨x1,e1,-,w1⟩:=DataW.trod_int Tryz.underlying3 g1;obtain ⟨x2,e2,-,w2⟩:=DataW.trod_int Tryz.underlying3 g2;obtain ⟨x3,e3,-,w3⟩:=DataW.trod_int Tryz.underlying3 g3;obtain ⟨x4,e4,-,w4⟩:=DataW.trod_int Tryz.underlying3 g4;simp at e0 e1 e2 e3 e4;subst e0 e1 e2 e3 e4;exact ⟨⟨x0,x1,x2,x3,x4⟩,rfl,w0,w1,w2,w3,w4⟩
theorem rowO_of {w:World} {a:Addr} {m len:Nat} (hl:len≤m)
  (h:∀ i,i<m→∃ y:Od,(∀ j,j<5→w.cell? (a.add (i*5+j))=y.cs.toList[j]?)∧wf5 y) :
  ∃ zs:List Od,RowO w (some a) len zs:=by
 haveI:Inhabited Od:=⟨od0⟩
 obtain ⟨f,hf⟩:=Deep.choose_lt h;have e:∀ i,i<len→((List.range len).map f).getD i od0=f i:=fun i hi=>by simp [List.getD,hi]
 refine ⟨(List.range len).map f,⟨by simp,?_,fun i hi=>by rw [e i hi];exact (hf i (by omega)).2⟩⟩;by_cases h0:len=0
 ·exact .inl h0
 ·obtain ⟨b,off,spot⟩:=a;have e0:w.cell? ((⟨b,off,spot⟩:Addr).add (0*5+0))=some (zI (f 0).k):=(hf 0 (by omega)).1 0 (by omega);have hs:spot=none:=by simpa [Addr.add] using World.cell?_spot e0
  subst hs;refine .inr ⟨b,off,rfl,?_,fun i j hi hj=>?_⟩
  ·rw [Addr.add_lit] at e0;exact World.block_lt_of_cell? w _ e0
  ·have h1:=(hf i (by omega)).1 j hj;rw [Addr.add_lit,← Nat.add_assoc] at h1;rw [e i hi,h1];simp
theorem open_orders {H:Type} {enc:TypeId × Value→H} {W:World} {r:Reach} {b0 b1:Nat} {held:Bool} {v:Value} {d:DataW H} {ps:List MemPlace}
  (hval:Value.okWide Tryz.prog W r b0 36 v) (h:DataW.Trod enc Tryz.prog W b1 (fun _=>true) held 36 v d ps) (hs:∀ n∈d.weights Tryz.prog 36,n≤reachBytes) :
  ∃ (p:Option Addr) (len cap:Nat) (l:List Od),v = .slice p len cap∧RowO W p len l:=by
 have hu:=Tryz.underlying36;have hc:Tryz.prog.cellsOf 75=5:=by kernel_rfl
 obtain ⟨p,len,cap,rfl⟩:=okWide_slice hu hval;obtain ⟨fuel,hf⟩:=h;rcases Deep.open_slice hu hf with ⟨hcs,_⟩ | ⟨a,l,c,m,n,D,Pl,hcs,_,hl,hm,hmm,hy,hall⟩
 ·simp [Value.cells] at hcs;obtain ⟨rfl,rfl,rfl⟩:=hcs;exact ⟨none,0,0,[],rfl,⟨rfl,.inl rfl,fun i hi=>absurd hi (Nat.not_lt_zero _)⟩⟩
 ·simp [Value.cells] at hcs;obtain ⟨rfl,rfl,rfl⟩:=hcs;simp only [if_true] at hmm;subst hmm;rw [hc] at hall
  obtain ⟨zs,r1⟩:=rowO_of (w:=W) (a:=a) (m:=m) hl (fun i hi=>by
   obtain ⟨cs',h1,h2⟩:=hall i hi;obtain ⟨_,hlen,hcell⟩:=World.cells?_some h1;obtain ⟨y,rfl,hw⟩:=od_cells hlen h2
   exact ⟨y,fun j hj=>by have:=hcell j hj;rwa [Deep.add_add] at this,hw⟩)
  exact ⟨some a,len,m,zs,rfl,r1⟩
end vnd
end Go.Proofs.YtnpblpbohcegoaaGreatDoor
