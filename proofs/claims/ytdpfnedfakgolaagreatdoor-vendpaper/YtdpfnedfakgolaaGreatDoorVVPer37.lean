import Derived.Test.YtdpfnedfakgolaaGreatDoorVVPer32
import Derived.Test.YtdpfnedfakgolaaGreatDoorVVPer36
set_option linter.unusedVariables false
set_option linter.unusedSimpArgs false
set_option maxHeartbeats 4000000
set_option maxRecDepth 100000
namespace Go.Proofs.YtdpfnedfakgolaaGreatDoor
namespace vnd
open disk (RepIs AppIs May repD lenAt appW Wds)
open book (Ev ev0 EMay evL evOf EncIs DecIs Cm cm0 So so0 BookIs FirstAt NoneAt Tells billOf soldOf StepIs HapIs)
open acc (Ac Tm Bi)
open ora (Pr IssueIs)
open cell (Wr wrt RowU RowW)
open rcp (Rc rc0)
open Go.RowKit
def AppK (w:World) (n:Nat) (z:List Int) (e:Ending) (w':World):Prop:=∃ a cap,e = .returned (.tuple #[.slice a n cap,zI 0])∧Dk w' a n cap z∧Below w.heap.size w w'
theorem step_writes {t:Tm} {c:List Int} {n:Nat} {l:List Ev} {bk bk':List Cm} {v:Ev} {ls:List Wr} (h:Shop t c n l bk) (hs:Stepped t c n l bk v bk' ls) (hn:l.length<120) (hf:14*l.length+13<n):ls=appW c (14*l.length) (evL v):=
 (keep_tape h.tape h.may hs.ev hn (by rw [h.len];exact hf) hs.keep).1
theorem apply_step {t:Tm} {c:List Int} {n:Nat} {l:List Ev} {bk bk':List Cm} {v:Ev} {ls:List Wr} (h:Shop t c n l bk) (hs:Stepped t c n l bk v bk' ls) (hn:l.length<120) (hf:14*l.length+13<n) (a b:Option Addr) (m c1 c2 k:Nat) (w:World) (hd:Dk w a n c1 c) (hw:RowW w b m ls) (hc:m≤c2) (hk:k≤m) :
  Calls Tryz.prog 14 #[.slice a n c1,.slice b m c2,zI (k:Int)] w fun e w'=>AppK w n (wrt c (ls.take k)) e w':=by
 have hls:=step_writes h hs hn hf;subst hls;have hcl:c.length=n:=h.len;have hm1:=h.tape.1.1;have hm2:=h.tape.1.2
 have hm:m≤4096:=by
  have h1:=hw.1;rw [disk.app_len,book.evL_len] at h1;split at h1 <;> omega
 refine (cell.apply_cap a b n m c1 c2 k c _ w hd.row hw (by omega) (by omega) hm hc (by rw [← hcl];exact disk.app_in c (evL v) _ (by rw [book.evL_len];omega)) hk).mono ?_;rintro e' w' ⟨a',cap',he,hrow,hnil,hroom,hb⟩;rw [cell.wrt_len,hcl] at he hrow hroom;exact ⟨a',cap',he,⟨hrow,hnil,hroom,by omega,disk.wds_wrt hd.wd _ (disk.wrs_take (disk.wrs_app (book.may_word hs.ev) (rmay_ev v) _) k)⟩,hb⟩
theorem some_writes {t:Tm} {c:List Int} {n:Nat} {l:List Ev} {bk bk':List Cm} {v:Ev} {ls:List Wr} (hs:Stepped t c n l bk v bk' ls) {w:World} {b:Option Addr} {m:Nat} (hw:RowW w b m ls):1≤m:=by
 have h1:=hs.some;have h2:=hw.1;cases ls with
 | nil=>exact absurd rfl h1
 | cons x l=>simp at h2;omega
theorem all_writes {w:World} {b:Option Addr} {m:Nat} {ls:List Wr} (hw:RowW w b m ls):ls.take m=ls:=List.take_of_length_le (by rw [hw.1];exact Nat.le_refl _)
theorem blank_dk {w:World} {a:Option Addr} {n cap:Nat} (hn:n≤2048) (hr:RowU w a n (List.replicate n 0)) (h0:a=none→cap=0) (h1:n≤cap):Dk w a n cap (List.replicate n 0):=⟨hr,h0,h1,by omega,disk.wds_zero n⟩
theorem dk_far {w:World} {a:Option Addr} {n cap:Nat} {c:List Int} {B:Nat} {cs:Array Value} {T:TypeId} (h:Dk w a n cap c) (hB:Blk w B cs T) (hno:∀ (j:Nat) (z:Int),cs[j]?≠some (Value.int .u32 z)):0<n→∀ y,a=some y→y.block≠B:=fun hn y hy hb=>by
 obtain ⟨b,off,rfl,_,hc⟩:=h.row.at hn;cases hy;have h1:=hc 0 hn;simp only [] at hb;subst hb;rw [hB.cell] at h1;exact hno _ _ h1
theorem dk_upd {w W:World} {a:Option Addr} {n cap:Nat} {c:List Int} {B:Nat} {cs:Array Value} {T:TypeId} (h:Dk w a n cap c) (hU:Upd w W B cs T) (hf:0<n→∀ y,a=some y→y.block≠B):Dk W a n cap c:=by
 refine ⟨⟨h.row.1,?_⟩,h.nil,h.room,h.bytes,h.wd⟩;by_cases h0:n=0
 ·exact .inl h0
 ·obtain ⟨b,off,rfl,_,hc⟩:=h.row.at (by omega);exact .inr ⟨b,off,rfl,fun i hi=>(hU.cell ⟨b,off+i,none⟩ (show b≠B from hf (by omega) ⟨b,off,none⟩ rfl) rfl).trans (hc i hi)⟩
theorem issue_len {l:List Pr} {m r b d:Int} {ls:List Pr} {x c:Int} (h:IssueIs l m r b d ls x c):ls.length≤l.length+1:=by
 rcases h with ⟨_,rfl,_⟩ | ⟨_,_,rfl,_⟩ | ⟨_,_,_,rfl,_⟩ | ⟨_,_,_,_,rfl,_⟩ | ⟨_,_,_,_,rfl,_⟩ <;> simp
theorem tok_len {kd:Int} {t:Tm} {c:List Int} {o:List Pr} {me te mo dr:Int} {ls:List Wr} {o':List Pr} {r:Rc} {f:Int} (h:TokIs kd t c o me te mo dr ls o' r f):o'.length≤o.length+1:=by
 by_cases hf:f=0
 ·obtain ⟨bk,g,_,⟨p,q⟩ | ⟨_,_,q⟩ | ⟨_,k,b,l,x,_,_,⟨p,q⟩ | ⟨_,o2,tg,g2,hi,⟨p,q⟩ | ⟨_,l2,g3,_,⟨p,q⟩ | ⟨_,_,rfl,_,_⟩⟩⟩⟩⟩:=h
  ·rw [q.2.1];simp
  ·rw [q.2.1];simp
  ·rw [q.2.1];simp
  ·rw [q.2.1];simp
  ·rw [q.2.1];simp
  ·exact issue_len hi
 ·rw [(tok_no h hf).2.1];simp
theorem served_len {t:Tm} {c:List Int} {o:List Pr} {x:Od} {ls:List Wr} {o':List Pr} {r:Rc} {f:Int} (hs:ServedIs t c o x ls o' r f):o'.length≤o.length+1:=by
 rcases hs with ⟨_,_,rfl,_⟩ | ⟨_,hc⟩ | ⟨_,hc⟩ | ⟨_,hc⟩
 ·omega
 ·exact tok_len hc
 ·exact tok_len hc
 ·exact tok_len hc
theorem came_of {w:World} {a:Option Addr} {n cap:Nat} {l:List Pr} (h:ora.RowP w a n l) (h0:a=none→cap=0) (h1:n≤cap) (hl:l.length≤100000):ora.Came w a n cap l:=⟨h,h0,h1,by have:=h.1;omega⟩
theorem came_upd {w W:World} {a:Option Addr} {n cap:Nat} {l:List Pr} {B:Nat} {cs:Array Value} {T:TypeId} (h:ora.Came w a n cap l) (hU:Upd w W B cs T) (hf:0<n→∀ y,a=some y→y.block≠B):ora.Came W a n cap l:=⟨rowP_updK h.row hU hf,h.nil,h.le,h.small⟩
def Od.cs (x:Od):Array Value:=#[zI x.k,zI x.m,zI x.a,zI x.b,zI x.d]
structure RowO (w:World) (p:Option Addr) (n:Nat) (xs:List Od):Prop where
 len:xs.length=n
 row:n=0∨∃ b off,p=some ⟨b,off,none⟩∧b<w.heap.size∧∀ i j,i<n→j<5→w.cell? ⟨b,off+i*5+j,none⟩=(xs.getD i od0).cs[j]?
 wf:∀ i,i<n→wf5 (xs.getD i od0)
theorem RowO.below {w w':World} {p:Option Addr} {n:Nat} {xs:List Od} (h:RowO w p n xs) (hb:Below w.heap.size w w'):RowO w' p n xs:=by
 refine ⟨h.len,?_,h.wf⟩;rcases h.row with h0 | ⟨b,off,rfl,lb,hc⟩
 ·exact .inl h0
 ·exact .inr ⟨b,off,rfl,Nat.lt_of_lt_of_le lb hb.size,fun i j hi hj=>(hb.cell (p:=⟨b,off+i*5+j,none⟩) lb).trans (hc i j hi hj)⟩
theorem RowO.at {w:World} {p:Option Addr} {n:Nat} {xs:List Od} (h:RowO w p n xs) {i:Nat} (hi:i<n):∃ b off,p=some ⟨b,off,none⟩∧b<w.heap.size∧w.cell? ⟨b,off+i*5,none⟩=some (zI (xs.getD i od0).k)∧w.cell? ⟨b,off+i*5+1,none⟩=some (zI (xs.getD i od0).m)∧w.cell? ⟨b,off+i*5+2,none⟩=some (zI (xs.getD i od0).a)∧w.cell? ⟨b,off+i*5+3,none⟩=some (zI (xs.getD i od0).b)∧w.cell? ⟨b,off+i*5+4,none⟩=some (zI (xs.getD i od0).d):=by
 rcases h.row with h0 | ⟨b,off,rfl,lb,hc⟩
 ·omega
 ·exact ⟨b,off,rfl,lb,hc i 0 hi (by decide),hc i 1 hi (by decide),hc i 2 hi (by decide),hc i 3 hi (by decide),hc i 4 hi (by decide)⟩
structure Opn (W:World) (t:Tm) (pt:Option Addr) (lt ct:Nat) (a:Option Addr) (cap:Nat) (c:List Int) (ao:Option Addr) (no ko:Nat) (o:List Pr) (l:List Ev) (bk:List Cm):Prop where
 tc:acc.TCame W t pt lt ct
 dk:Dk W a 600 cap c
 oc:ora.Came W ao no ko o
 shop:Shop t c 600 l bk
theorem Opn.next {t:Tm} {pt:Option Addr} {lt ct:Nat} {a:Option Addr} {cap:Nat} {c:List Int} {ao:Option Addr} {no ko:Nat} {o:List Pr} {l:List Ev} {bk:List Cm} {W W':World} (h:Opn W t pt lt ct a cap c ao no ko o l bk) (hb:Below W.heap.size W W'):Opn W' t pt lt ct a cap c ao no ko o l bk:=⟨h.tc.below hb,h.dk.below hb,h.oc.below hb,h.shop⟩
structure St (W:World) (B:Nat) (t:Tm) (pt:Option Addr) (lt ct:Nat) (a:Option Addr) (cap:Nat) (c:List Int) (ao:Option Addr) (no ko:Nat) (o:List Pr) (l:List Ev) (bk:List Cm):Prop where
 box:Blk W B #[.slice pt lt ct,zI t.ff,zI t.fb,zI t.db,zI t.al,.slice a 600 cap,.slice ao no ko] 36
 is:Opn W t pt lt ct a cap c ao no ko o l bk
 farT:0<lt→∀ y,pt=some y→y.block≠B
 farO:0<no→∀ y,ao=some y→y.block≠B
theorem St.next {t:Tm} {pt:Option Addr} {lt ct:Nat} {a:Option Addr} {cap:Nat} {c:List Int} {ao:Option Addr} {no ko:Nat} {o:List Pr} {l:List Ev} {bk:List Cm} {W W':World} {B:Nat} (h:St W B t pt lt ct a cap c ao no ko o l bk) (hb:Below W.heap.size W W'):St W' B t pt lt ct a cap c ao no ko o l bk:=⟨h.box.next hb,h.is.next hb,h.farT,h.farO⟩
theorem came_updD {w W:World} {p:Option Addr} {n cap:Nat} {zs:List tar.Du} {B:Nat} {cs:Array Value} {T:TypeId} (h:tar.Came w p n cap zs) (hU:Upd w W B cs T) (hf:0<n→∀ y,p=some y→y.block≠B):tar.Came W p n cap zs:=by
 refine ⟨⟨h.row.1,?_⟩,h.nil,h.room,h.bytes,h.wf⟩;rcases h.row.2 with h0 | ⟨b,off,rfl,hc⟩
 ·exact .inl h0
 ·by_cases h0:n=0
  ·exact .inl h0
  ·have hne:b≠B:=hf (by omega) ⟨b,off,none⟩ rfl;exact .inr ⟨b,off,rfl,fun i hi=>⟨(hU.cell ⟨b,off+i*2,none⟩ hne rfl).trans (hc i hi).1,(hU.cell ⟨b,off+i*2+1,none⟩ hne rfl).trans (hc i hi).2⟩⟩
theorem no_u32 {t:Tm} {pt:Option Addr} {lt ct:Nat} {a:Option Addr} {cap:Nat} {c:List Int} {ao:Option Addr} {no ko:Nat} {o:List Pr} {l:List Ev} {bk:List Cm}:∀ (j:Nat) (z:Int),(#[.slice pt lt ct,zI t.ff,zI t.fb,zI t.db,zI t.al,.slice a 600 cap,.slice ao no ko]:Array Value)[j]?≠some (Value.int .u32 z):=fun j z=>by
 match j with
 | 0=>simp
 | 1=>simp
 | 2=>simp
 | 3=>simp
 | 4=>simp
 | 5=>simp
 | 6=>simp
 | j+7=>simp
theorem St.words {t:Tm} {pt:Option Addr} {lt ct:Nat} {a:Option Addr} {cap:Nat} {c:List Int} {ao:Option Addr} {no ko:Nat} {o:List Pr} {l:List Ev} {bk:List Cm} {W W':World} {B:Nat} (h:St W B t pt lt ct a cap c ao no ko o l bk) {a2:Option Addr} {cap2:Nat} {c2:List Int} {l2:List Ev} {bk2:List Cm} (hd:Dk W a2 600 cap2 c2) (hs:Shop t c2 600 l2 bk2) (hU:Upd W W' B #[.slice pt lt ct,zI t.ff,zI t.fb,zI t.db,zI t.al,.slice a2 600 cap2,.slice ao no ko] 36):St W' B t pt lt ct a2 cap2 c2 ao no ko o l2 bk2:=
 ⟨hU.blk,⟨⟨came_updD h.is.tc.ts hU h.farT,h.is.tc.wf⟩,dk_upd hd hU (dk_far hd h.box (no_u32 (t:=t) (pt:=pt) (lt:=lt) (ct:=ct) (a:=a) (cap:=cap) (c:=c) (ao:=ao) (no:=no) (ko:=ko) (o:=o) (l:=l) (bk:=bk))),came_upd h.is.oc hU h.farO,hs⟩,h.farT,h.farO⟩
theorem St.ora {t:Tm} {pt:Option Addr} {lt ct:Nat} {a:Option Addr} {cap:Nat} {c:List Int} {ao:Option Addr} {no ko:Nat} {o:List Pr} {l:List Ev} {bk:List Cm} {W W':World} {B:Nat} (h:St W B t pt lt ct a cap c ao no ko o l bk) {a2:Option Addr} {n2 k2:Nat} {o2:List Pr} (ho:ora.Came W a2 n2 k2 o2) (hf:0<n2→∀ y,a2=some y→y.block≠B) (hU:Upd W W' B #[.slice pt lt ct,zI t.ff,zI t.fb,zI t.db,zI t.al,.slice a 600 cap,.slice a2 n2 k2] 36):St W' B t pt lt ct a cap c a2 n2 k2 o2 l bk:=
 ⟨hU.blk,⟨⟨came_updD h.is.tc.ts hU h.farT,h.is.tc.wf⟩,dk_upd h.is.dk hU (dk_far h.is.dk h.box (no_u32 (t:=t) (pt:=pt) (lt:=lt) (ct:=ct) (a:=a) (cap:=cap) (c:=c) (ao:=ao) (no:=no) (ko:=ko) (o:=o) (l:=l) (bk:=bk))),came_upd ho hU hf,h.is.shop⟩,h.farT,hf⟩
def OpenPost (w:World) (e:Ending) (w':World):Prop:=∃ t pt lt ct a cap c ao no ko o l bk,e = .returned (.tuple #[.agg #[.slice pt lt ct,zI t.ff,zI t.fb,zI t.db,zI t.al,.slice a 600 cap,.slice ao no ko],.bool true])∧Opn w' t pt lt ct a cap c ao no ko o l bk∧Three bk∧3≤l.length∧l.length≤15∧o.length≤12∧(0<lt→∀ y,pt=some y→w.heap.size≤y.block)∧(0<no→∀ y,ao=some y→w.heap.size≤y.block)∧Below w.heap.size w w'
end vnd
namespace token
open words check
open Go.RowKit
theorem plus_wn (a b c V m:Nat) (w:World) (h:WN a b c V) (hm:m<4294967296) (hv:V+m<79228162514264337593543950336) :
  Calls Tryz.prog 54 #[.agg #[.int .u32 (a:Int),.int .u32 (b:Int),.int .u32 (c:Int)],.int .u32 (m:Int)] w fun e w'=>
   ∃ (a' b' c':Nat) (o:Int),e = .returned (.tuple #[.agg #[.int .u32 (a':Int),.int .u32 (b':Int),.int .u32 (c':Int)],.int .u32 o])∧WN a' b' c' (V+m)∧Below w.heap.size w w':=by
 have hk:=wn_ok h;have ht:=plus_any ⟨a,b,c⟩ m w hk.1 (by omega) (by omega)
 obtain ⟨a',b',c',he,hn⟩:=wn_of (X:=plusW ⟨a,b,c⟩ m) (carry3_ok _ _ _) (V:=V+m) (by
  have h1:=plus_val ⟨a,b,c⟩ m;have h2:=plus_over hk.1 (x:=(m:Int)) (by omega) (by omega);have h3:=W3.bd (carry3_ok ((m:Int)+(a:Int)) b c);rw [hk.2] at h1;have h4:0≤(plusW ⟨a,b,c⟩ m).val:=h3.1;unfold top at h1
  omega)
 refine ht.mono ?_;rintro e w' ⟨rfl,hb⟩;exact ⟨a',b',c',_,by rw [he],hn,hb⟩
structure Rd (w wr:World) (s:ByteArray) (k a b c:Nat):Prop where
 below:Below w.heap.size w wr
 res:Blk wr w.heap.size #[.int .u32 0,.int .u32 0,.int .u32 0] 89
 num:Blk wr (w.heap.size+1) #[.int .u32 (a:Int),.int .u32 (b:Int),.int .u32 (c:Int)] 89
 it:It wr (w.heap.size+1+1) s k
 wn:WN a b c (dv (s.data.toList.take k))
def ReadPost (w:World) (s:ByteArray) (e:Ending) (w':World):Prop:=
 Below w.heap.size w w'∧((allD s.data.toList=true∧∃ a b c:Nat,e = .returned (.tuple #[.agg #[.int .u32 (a:Int),.int .u32 (b:Int),.int .u32 (c:Int)],zI 0])∧WN a b c (dv s.data.toList)) ∨
  (allD s.data.toList=false∧e = .returned (.tuple #[.agg #[.int .u32 0,.int .u32 0,.int .u32 0],zI 7])))
theorem read_len (s:ByteArray) (w:World) (h:s.size≠20) :
  Calls Tryz.prog 23 #[.string s] w fun e w'=>e = .returned (.tuple #[.agg #[.int .u32 0,.int .u32 0,.int .u32 0],zI 6])∧Below w.heap.size w w':=by
 have hd:((s.size:Int) != 20)=true:=by simp;omega
 have hX:=Blk.new w #[.int .u32 0,.int .u32 0,.int .u32 0] 89;have HB:Hid (Below w.heap.size w (w.alloc (.cells #[.int .u32 0,.int .u32 0,.int .u32 0] 89))):=bel_box _ _;have R0:Hid (_=_):=hX.cell 0;have R1:Hid (_=_):=hX.cell 1;have R2:Hid (_=_):=hX.cell 2;clear h hX;go_enter Tryz.func23,Tryz.ntmps23;go_wp2_with fail;refine bodyPost_ret (v:= .tuple #[.agg #[.int .u32 0,.int .u32 0,.int .u32 0],zI 6]) (by simp [results,Tryz.results23,R0.o,R1.o,R2.o,go_sem]) rfl ⟨rfl,HB.o⟩
theorem read_any (s:ByteArray) (w:World) (h:s.size=20) :
  Calls Tryz.prog 23 #[.string s] w fun e w'=>ReadPost w s e w':=by
 have hd:((s.size:Int) != 20)=false:=by simp;omega
 have hb0:Below w.heap.size w (((w.alloc (.cells #[.int .u32 0,.int .u32 0,.int .u32 0] 89)).alloc (.cells #[.int .u32 0,.int .u32 0,.int .u32 0] 89)).iter s 0):=((bel_box _ _).alloc (by simp) _).alloc (by simp;omega) _
 have HR0:Hid (Rd w (((w.alloc (.cells #[.int .u32 0,.int .u32 0,.int .u32 0] 89)).alloc (.cells #[.int .u32 0,.int .u32 0,.int .u32 0] 89)).iter s 0) s 0 0 0 0):=
  ⟨hb0,((Blk.new _ _ _).alloc _).alloc _,(Blk.new1 _ _ _ _).alloc _,by
   have:=World.iter_heap ((w.alloc (.cells #[.int .u32 0,.int .u32 0,.int .u32 0] 89)).alloc (.cells #[.int .u32 0,.int .u32 0,.int .u32 0] 89)) s 0
   rwa [show ((w.alloc (.cells #[.int .u32 0,.int .u32 0,.int .u32 0] 89)).alloc (.cells #[.int .u32 0,.int .u32 0,.int .u32 0] 89)).heap.size=w.heap.size+1+1 by simp] at this,wn_zero⟩
 have HS:Hid (s.size=20):=h;clear h hb0;go_enter Tryz.func23,Tryz.ntmps23;go_wp2_with fail;generalize (((w.alloc (.cells #[.int .u32 0,.int .u32 0,.int .u32 0] 89)).alloc (.cells #[.int .u32 0,.int .u32 0,.int .u32 0] 89)).iter s 0)=W0 at *;go_loopw [] (fun wr=>∃ k a b c:Nat,k≤s.size∧allD (s.data.toList.take k)=true∧Rd w wr s k a b c) (fun wr=>s.size - wr.iterPos (w.heap.size+1+1))
 case atStart=>exact ⟨0,0,0,0,Nat.zero_le _,rfl,HR0.o⟩
 case round=>
  obtain ⟨k,a,b,c,hk,hok,hl⟩:=hrel;have HK:Hid (allD (s.data.toList.take k)=true):=hok;have HP0:Hid (wr.iterPos (w.heap.size+1+1)=k):=hl.it.pos;clear hok;by_cases hp:k<s.size
  ·by_cases ha:(s[k]'hp).toNat<128
   ·have hnx:∀ ty,(Instr.next (.pointer (some ⟨w.heap.size+1+1,0,none⟩)) true ty).run Tryz.prog wr=_:=fun ty=>Lib.run_next_ascii_at wr (w.heap.size+1+1) s k ty hl.it hp ha;have HN:Hid (isD s[k]=false→allD s.data.toList=false):=allD_take_no s k hp;have HL:Hid (((s[k].toNat:Nat):Int)<48→isD s[k]=false):=fun a=>isD_lo a;have HH:Hid (57<((s[k].toNat:Nat):Int)→isD s[k]=false):=fun a=>isD_hi a;have BN:=Lib.below_iterAt hl.below (k:=w.heap.size+1+1) (by omega) s (k+1);have IT:It (wr.iterAt (w.heap.size+1+1) s (k+1)) (w.heap.size+1+1) s (k+1):=Lib.iterAt_heap wr (w.heap.size+1+1) s k (k+1) hl.it;have RN:=hl.res.iter (I:=w.heap.size+1+1) s (k+1) (by omega);have NN:=hl.num.iter (I:=w.heap.size+1+1) s (k+1) (by omega);have HW:Hid (WN a b c (dv (s.data.toList.take k))):=hl.wn
    have HD:Hid (dv (s.data.toList.take (k+1))=dv (s.data.toList.take k)*10+(s[k].toNat - 48)):=by
     show _=_;rw [take_snoc s k hp,dv_snoc]
    have HA:Hid (48≤((s[k].toNat:Nat):Int)→((s[k].toNat:Nat):Int)≤57→allD (s.data.toList.take (k+1))=true):=fun h1 h2=>by
     rw [take_snoc s k hp,allD_append,HK.o];simp [allD,isD_yes h1 h2]
    have HV:Hid (dv (s.data.toList.take k)<100000000000000000000):=by
     have h1:=dv_lt _ HK.o
     have h2:(s.data.toList.take k).length≤20:=by
      rw [List.length_take,len_eq,HS.o];omega
     exact Nat.lt_of_lt_of_le h1 (Nat.pow_le_pow_right (by decide) h2)
    clear ha hl;generalize hwn:wr.iterAt (w.heap.size+1+1) s (k+1)=wn at *;clear hwn;have r0:=RN.cell 0;have r1:=RN.cell 1;have r2:=RN.cell 2;have g0:=RN.free 0;have g1:=RN.free 1;have g2:=RN.free 2;have HZ:Hid (Below w.heap.size w (set3 wn w.heap.size 0 0 0)∧Blk (set3 wn w.heap.size 0 0 0) w.heap.size #[.int .u32 0,.int .u32 0,.int .u32 0] 89):=⟨bel_set3 BN _ _ _ _ (Nat.le_refl _),RN.put3 0 0 0⟩
    have c0:=NN.cell 0;have c1:=NN.cell 1;have c2:=NN.cell 2;generalize s[k]=ch at *;generalize dv (s.data.toList.take k)=V at *;have HI:Hid (It wn (w.heap.size+1+1) s (k+1)):=IT;have HRN:Hid (Blk wn w.heap.size #[.int .u32 0,.int .u32 0,.int .u32 0] 89):=RN;have HNN:Hid (Blk wn (w.heap.size+1) #[.int .u32 (a:Int),.int .u32 (b:Int),.int .u32 (c:Int)] 89):=NN;have HBN:Hid (Below w.heap.size w wn):=BN;clear IT RN NN BN;generalize hcc:ch.toNat=z at *;clear hcc;by_cases h1:(z:Int)<48
    ·have R0:Hid (_=_):=HZ.o.2.cell 0;have R1:Hid (_=_):=HZ.o.2.cell 1;have R2:Hid (_=_):=HZ.o.2.cell 2;unfold set3 at *;go_wp2_with fail;refine bodyPost_ret (v:= .tuple #[.agg #[.int .u32 0,.int .u32 0,.int .u32 0],zI 7]) (by simp [results,Tryz.results23,R0.o,R1.o,R2.o,go_sem]) rfl ⟨HZ.o.1,.inr ⟨HN.o (HL.o h1),rfl⟩⟩
    ·by_cases h2:57<(z:Int)
     ·have R0:Hid (_=_):=HZ.o.2.cell 0;have R1:Hid (_=_):=HZ.o.2.cell 1;have R2:Hid (_=_):=HZ.o.2.cell 2;unfold set3 at *;go_wp2_with fail;refine bodyPost_ret (v:= .tuple #[.agg #[.int .u32 0,.int .u32 0,.int .u32 0],zI 7]) (by simp [results,Tryz.results23,R0.o,R1.o,R2.o,go_sem]) rfl ⟨HZ.o.1,.inr ⟨HN.o (HH.o h2),rfl⟩⟩
     ·clear r0 r1 r2 g0 g1 g2 HZ HN HL HH;obtain ⟨d,rfl⟩:∃ d:Nat,z=d+48:=⟨z - 48,by omega⟩
      have hd9:(d:Int)≤9:=by omega
      have ez:(((d+48:Nat):Int))=(d:Int)+48:=by omega
      have ed:(d:Int)+48 - 48=(d:Int):=by omega
      have hwz:IntKind.u32.wrap (d:Int)=(d:Int):=by rw [IntKind.wrap_u32];omega
      have HA':Hid (allD (s.data.toList.take (k+1))=true):=HA.o (by omega) (by omega)
      have HD':Hid (dv (s.data.toList.take (k+1))=V*10+d):=by
       have:=HD.o
       rwa [show d+48 - 48=d by omega] at this
      have HT:Hid (∀ W,Calls Tryz.prog 53 #[.agg #[.int .u32 (a:Int),.int .u32 (b:Int),.int .u32 (c:Int)],.int .u32 10] W fun e w'=>∃ (a' b' c':Nat) (o:Int),e = .returned (.tuple #[.agg #[.int .u32 (a':Int),.int .u32 (b':Int),.int .u32 (c':Int)],.int .u32 o])∧WN a' b' c' (V*10)∧Below W.heap.size W w'):=fun W=>times_wn a b c V 10 W HW.o (by omega) (by have:=HV.o;omega);have HPl:Hid (∀ (x y z:Nat) W,WN x y z (V*10)→Calls Tryz.prog 54 #[.agg #[.int .u32 (x:Int),.int .u32 (y:Int),.int .u32 (z:Int)],.int .u32 (d:Int)] W fun e w'=>∃ (a' b' c':Nat) (o:Int),e = .returned (.tuple #[.agg #[.int .u32 (a':Int),.int .u32 (b':Int),.int .u32 (c':Int)],.int .u32 o])∧WN a' b' c' (V*10+d)∧Below W.heap.size W w'):=fun x y z W hW=>plus_wn x y z (V*10) d W hW (by omega) (by have:=HV.o;omega);rw [ez] at h1 h2;simp only [ez] at hnx;clear HA HD HW HV ez;go_wp2_with fail;refine (HT.o _).mono ?_;clear c0 c1 c2;rintro e w2 ⟨a2,b2,c2,o2,rfl,hw2,hb2⟩;have HW2:Hid (WN a2 b2 c2 (V*10)):=hw2;have HB2:=shB HBN hb2;have HI2:Hid (It w2 (w.heap.size+1+1) s (k+1)):=HI.o.next hb2;have HR2:=shN HRN hb2;have hN2:=HNN.o.next hb2;have HN3:Hid (Blk (set3 w2 (w.heap.size+1) a2 b2 c2) (w.heap.size+1) #[.int .u32 (a2:Int),.int .u32 (b2:Int),.int .u32 (c2:Int)] 89):=hN2.put3 a2 b2 c2;have HB3:Hid (Below w.heap.size w (set3 w2 (w.heap.size+1) a2 b2 c2)):=bel_set3 HB2.o _ _ _ _ (by omega);have HI3:Hid (It (set3 w2 (w.heap.size+1) a2 b2 c2) (w.heap.size+1+1) s (k+1)):=HI2.o.off3 (by omega) _ _ _;have HR3:Hid (Blk (set3 w2 (w.heap.size+1) a2 b2 c2) w.heap.size #[.int .u32 0,.int .u32 0,.int .u32 0] 89):=HR2.o.off3 (by omega) _ _ _;have t0:=hN2.cell 0;have t1:=hN2.cell 1;have t2:=hN2.cell 2;have u0:=hN2.free 0;have u1:=hN2.free 1;have u2:=hN2.free 2;clear hw2 hb2 hN2 HBN HI HRN HNN HB2 HI2 HR2 HT;unfold set3 at HN3 HB3 HI3 HR3;go_wp2_with fail;generalize (((w2.setCell ⟨w.heap.size+1,0,none⟩ (.int .u32 (a2:Int))).setCell ⟨w.heap.size+1,1,none⟩ (.int .u32 (b2:Int))).setCell ⟨w.heap.size+1,2,none⟩ (.int .u32 (c2:Int)))=W3 at *
      clear t0 t1 t2 u0 u1 u2;refine (HPl.o _ _ _ _ HW2.o).mono ?_;rintro e w4 ⟨a4,b4,c4,o4,rfl,hw4,hb4⟩;have HB4:=shB HB3 hb4;have hN4:=HN3.o.next hb4
      have HL:Hid (Rd w (set3 w4 (w.heap.size+1) a4 b4 c4) s (k+1) a4 b4 c4):=by
       refine ⟨bel_set3 HB4.o _ _ _ _ (by omega),(HR3.o.next hb4).off3 (by omega) _ _ _,hN4.put3 _ _ _,(HI3.o.next hb4).off3 (by omega) _ _ _,?_⟩;rw [HD'.o];exact hw4
      have t0:=hN4.cell 0;have t1:=hN4.cell 1;have t2:=hN4.cell 2;have u0:=hN4.free 0;have u1:=hN4.free 1;have u2:=hN4.free 2;clear hw4 hb4 hN4 HB3 HI3 HR3 HN3 HB4 HPl HW2;unfold set3 at HL;go_wp2_with fail;go_roundw
      case rel=>exact ⟨k+1,a4,b4,c4,by omega,HA'.o,HL.o⟩
      case measure=>
       rw [HP0.o,HL.o.it.pos];omega
   ·have hd:=(decode_high s k hp (by omega)).1;have hnx:∀ ty,(Instr.next (.pointer (some ⟨w.heap.size+1+1,0,none⟩)) true ty).run Tryz.prog wr=_:=fun ty=>Lib.run_next_any_at wr (w.heap.size+1+1) s k ty hl.it hp;have HN:Hid (allD s.data.toList=false):=allD_take_no s k hp (isD_hi (by omega));have BN:=fun p=>Lib.below_iterAt hl.below (k:=w.heap.size+1+1) (by omega) s p;have RN:=fun p=>hl.res.iter (I:=w.heap.size+1+1) s p (by omega);clear ha hl;have hd2:=decode_le s k;generalize (Utf8.decode s k).1=r at *;generalize (Utf8.decode s k).2=n at *;have BN:=BN (k+n);have RN:=RN (k+n);generalize hwn:wr.iterAt (w.heap.size+1+1) s (k+n)=wn at *;clear hwn;have r0:=RN.cell 0;have r1:=RN.cell 1;have r2:=RN.cell 2;have g0:=RN.free 0;have g1:=RN.free 1;have g2:=RN.free 2;have HZ:Hid (Below w.heap.size w (set3 wn w.heap.size 0 0 0)∧Blk (set3 wn w.heap.size 0 0 0) w.heap.size #[.int .u32 0,.int .u32 0,.int .u32 0] 89):=⟨bel_set3 BN _ _ _ _ (Nat.le_refl _),RN.put3 0 0 0⟩
    have R0:Hid (_=_):=HZ.o.2.cell 0;have R1:Hid (_=_):=HZ.o.2.cell 1;have R2:Hid (_=_):=HZ.o.2.cell 2;clear BN RN;unfold set3 at *;go_wp2_with fail;refine bodyPost_ret (v:= .tuple #[.agg #[.int .u32 0,.int .u32 0,.int .u32 0],zI 7]) (by simp [results,Tryz.results23,R0.o,R1.o,R2.o,go_sem]) rfl ⟨HZ.o.1,.inr ⟨HN.o,rfl⟩⟩
  ·have hnx:∀ ty,(Instr.next (.pointer (some ⟨w.heap.size+1+1,0,none⟩)) true ty).run Tryz.prog wr=_:=fun ty=>Lib.run_next_end_at wr (w.heap.size+1+1) s k ty hl.it hp;have hkt:s.data.toList.take k=s.data.toList:=List.take_of_length_le (by rw [len_eq];omega)
   have HP:Hid (allD s.data.toList=true∧WN a b c (dv s.data.toList)):=by
    have h1:=HK.o;have h2:=hl.wn;rw [hkt] at h1 h2;exact ⟨h1,h2⟩
   have r0:=hl.res.cell 0;have r1:=hl.res.cell 1;have r2:=hl.res.cell 2;have g0:=hl.res.free 0;have g1:=hl.res.free 1;have g2:=hl.res.free 2;have c0:=hl.num.cell 0;have c1:=hl.num.cell 1;have c2:=hl.num.cell 2;have HZ:Hid (Below w.heap.size w (set3 wr w.heap.size a b c)∧Blk (set3 wr w.heap.size a b c) w.heap.size #[.int .u32 (a:Int),.int .u32 (b:Int),.int .u32 (c:Int)] 89):=⟨bel_set3 hl.below _ _ _ _ (Nat.le_refl _),hl.res.put3 a b c⟩
   have R0:Hid (_=_):=HZ.o.2.cell 0;have R1:Hid (_=_):=HZ.o.2.cell 1;have R2:Hid (_=_):=HZ.o.2.cell 2;clear hl hkt;unfold set3 at *;go_wp2_with fail;refine bodyPost_ret (v:= .tuple #[.agg #[.int .u32 (a:Int),.int .u32 (b:Int),.int .u32 (c:Int)],zI 0]) (by simp [results,Tryz.results23,R0.o,R1.o,R2.o,go_sem]) rfl ⟨HZ.o.1,.inl ⟨HP.o.1,a,b,c,rfl,HP.o.2⟩⟩
end token
end Go.Proofs.YtdpfnedfakgolaaGreatDoor
