import Derived.Test.YtnpblpbohcegoaaGreatDoorVBGws21
import Derived.Test.YtnpblpbohcegoaaGreatDoorVBGws27
set_option linter.unusedVariables false
set_option linter.unusedSimpArgs false
set_option maxHeartbeats 4000000
set_option maxRecDepth 100000
namespace Go.Proofs.YtnpblpbohcegoaaGreatDoor
namespace vnd
open disk (RepIs AppIs May repD lenAt appW Wds)
open book (Ev ev0 EMay evL evOf EncIs DecIs Cm cm0 So so0 BookIs FirstAt NoneAt Tells billOf soldOf StepIs HapIs)
open acc (Ac Tm Bi)
open ora (Pr IssueIs)
open cell (Wr wrt RowU RowW)
open rcp (Rc rc0)
open Go.RowKit
def AppK (w:World) (n:Nat) (z:List Int) (e:Ending) (w':World):Prop:=∃ a cap,e = .returned (.tuple #[.slice a n cap,zI 0])∧Dk w' a n cap z∧Below w.heap.size w w'
theorem step_writes {t:Tm} {c:List Int} {n:Nat} {l:List Ev} {bk bk':List Cm} {v:Ev} {ls:List Wr} (h:Shop t c n l bk) (hs:Stepped t c n l bk v bk' ls) (hn:l.length<120) (hf:14*l.length+13<n):ls=appW c (14*l.length) (evL v):=
 (keep_tape h.tape h.may hs.ev hn (by rw [h.len];exact hf) hs.keep).1
theorem apply_step {t:Tm} {c:List Int} {n:Nat} {l:List Ev} {bk bk':List Cm} {v:Ev} {ls:List Wr} (h:Shop t c n l bk) (hs:Stepped t c n l bk v bk' ls) (hn:l.length<120) (hf:14*l.length+13<n) (a b:Option Addr) (m c1 c2 k:Nat) (w:World) (hd:Dk w a n c1 c) (hw:RowW w b m ls) (hc:m≤c2) (hk:k≤m) :
  Calls Tryz.prog 22 #[.slice a n c1,.slice b m c2,zI (k:Int)] w fun e w'=>AppK w n (wrt c (ls.take k)) e w':=by
 have hls:=step_writes h hs hn hf;subst hls;have hcl:c.length=n:=h.len;have hm1:=h.tape.1.1;have hm2:=h.tape.1.2
 have hm:m≤4096:=by
  have h1:=hw.1;rw [disk.app_len,book.evL_len] at h1;split at h1 <;> omega
 refine (cell.apply_cap a b n m c1 c2 k c _ w hd.row hw (by omega) (by omega) hm hc (by rw [← hcl];exact disk.app_in c (evL v) _ (by rw [book.evL_len];omega)) hk).mono ?_;rintro e' w' ⟨a',cap',he,hrow,hnil,hroom,hb⟩;rw [cell.wrt_len,hcl] at he hrow hroom;exact ⟨a',cap',he,⟨hrow,hnil,hroom,by omega,disk.wds_wrt hd.wd _ (disk.wrs_take (disk.wrs_app (book.may_word hs.ev) (rmay_ev v) _) k)⟩,hb⟩
theorem some_writes {t:Tm} {c:List Int} {n:Nat} {l:List Ev} {bk bk':List Cm} {v:Ev} {ls:List Wr} (hs:Stepped t c n l bk v bk' ls) {w:World} {b:Option Addr} {m:Nat} (hw:RowW w b m ls):1≤m:=by
 have h1:=hs.some;have h2:=hw.1;cases ls with
 | nil=>exact absurd rfl h1
 | cons x l=>simp at h2;omega
theorem all_writes {w:World} {b:Option Addr} {m:Nat} {ls:List Wr} (hw:RowW w b m ls):ls.take m=ls:=List.take_of_length_le (by rw [hw.1];exact Nat.le_refl _)
theorem blank_dk {w:World} {a:Option Addr} {n cap:Nat} (hn:n≤2048) (hr:RowU w a n (List.replicate n 0)) (h0:a=none→cap=0) (h1:n≤cap):Dk w a n cap (List.replicate n 0):=⟨hr,h0,h1,by omega,disk.wds_zero n⟩
theorem dk_far {w:World} {a:Option Addr} {n cap:Nat} {c:List Int} {B:Nat} {cs:Array Value} {T:TypeId} (h:Dk w a n cap c) (hB:Blk w B cs T) (hno:∀ (j:Nat) (z:Int),cs[j]?≠some (Value.int .u32 z)):0<n→∀ y,a=some y→y.block≠B:=fun hn y hy hb=>by
 obtain ⟨b,off,rfl,_,hc⟩:=h.row.at hn;cases hy;have h1:=hc 0 hn;simp only [] at hb;subst hb;rw [hB.cell] at h1;exact hno _ _ h1
theorem dk_upd {w W:World} {a:Option Addr} {n cap:Nat} {c:List Int} {B:Nat} {cs:Array Value} {T:TypeId} (h:Dk w a n cap c) (hU:Upd w W B cs T) (hf:0<n→∀ y,a=some y→y.block≠B):Dk W a n cap c:=by
 refine ⟨⟨h.row.1,?_⟩,h.nil,h.room,h.bytes,h.wd⟩;by_cases h0:n=0
 ·exact .inl h0
 ·obtain ⟨b,off,rfl,_,hc⟩:=h.row.at (by omega);exact .inr ⟨b,off,rfl,fun i hi=>(hU.cell ⟨b,off+i,none⟩ (show b≠B from hf (by omega) ⟨b,off,none⟩ rfl) rfl).trans (hc i hi)⟩
theorem issue_len {l:List Pr} {m r b d:Int} {ls:List Pr} {x c:Int} (h:IssueIs l m r b d ls x c):ls.length≤l.length+1:=by
 rcases h with ⟨_,rfl,_⟩ | ⟨_,_,rfl,_⟩ | ⟨_,_,_,rfl,_⟩ | ⟨_,_,_,_,rfl,_⟩ | ⟨_,_,_,_,rfl,_⟩ <;> simp
theorem tok_len {kd:Int} {t:Tm} {c:List Int} {o:List Pr} {me te mo dr:Int} {ls:List Wr} {o':List Pr} {r:Rc} {f:Int} (h:TokIs kd t c o me te mo dr ls o' r f):o'.length≤o.length+1:=by
 by_cases hf:f=0
 ·obtain ⟨bk,g,_,⟨p,q⟩ | ⟨_,_,q⟩ | ⟨_,k,b,l,x,_,_,⟨p,q⟩ | ⟨_,o2,tg,g2,hi,⟨p,q⟩ | ⟨_,l2,g3,_,⟨p,q⟩ | ⟨_,_,rfl,_,_⟩⟩⟩⟩⟩:=h
  ·rw [q.2.1];simp
  ·rw [q.2.1];simp
  ·rw [q.2.1];simp
  ·rw [q.2.1];simp
  ·rw [q.2.1];simp
  ·exact issue_len hi
 ·rw [(tok_no h hf).2.1];simp
theorem served_len {t:Tm} {c:List Int} {o:List Pr} {x:Od} {ls:List Wr} {o':List Pr} {r:Rc} {f:Int} (hs:ServedIs t c o x ls o' r f):o'.length≤o.length+1:=by
 rcases hs with ⟨_,_,rfl,_⟩ | ⟨_,hc⟩ | ⟨_,hc⟩ | ⟨_,hc⟩
 ·omega
 ·exact tok_len hc
 ·exact tok_len hc
 ·exact tok_len hc
theorem came_of {w:World} {a:Option Addr} {n cap:Nat} {l:List Pr} (h:ora.RowP w a n l) (h0:a=none→cap=0) (h1:n≤cap) (hl:l.length≤100000):ora.Came w a n cap l:=⟨h,h0,h1,by have:=h.1;omega⟩
theorem came_upd {w W:World} {a:Option Addr} {n cap:Nat} {l:List Pr} {B:Nat} {cs:Array Value} {T:TypeId} (h:ora.Came w a n cap l) (hU:Upd w W B cs T) (hf:0<n→∀ y,a=some y→y.block≠B):ora.Came W a n cap l:=⟨rowP_updK h.row hU hf,h.nil,h.le,h.small⟩
def Od.cs (x:Od):Array Value:=#[zI x.k,zI x.m,zI x.a,zI x.b,zI x.d]
structure RowO (w:World) (p:Option Addr) (n:Nat) (xs:List Od):Prop where
 len:xs.length=n
 row:n=0∨∃ b off,p=some ⟨b,off,none⟩∧b<w.heap.size∧∀ i j,i<n→j<5→w.cell? ⟨b,off+i*5+j,none⟩=(xs.getD i od0).cs[j]?
 wf:∀ i,i<n→wf5 (xs.getD i od0)
theorem RowO.below {w w':World} {p:Option Addr} {n:Nat} {xs:List Od} (h:RowO w p n xs) (hb:Below w.heap.size w w'):RowO w' p n xs:=by
 refine ⟨h.len,?_,h.wf⟩;rcases h.row with h0 | ⟨b,off,rfl,lb,hc⟩
 ·exact .inl h0
 ·exact .inr ⟨b,off,rfl,Nat.lt_of_lt_of_le lb hb.size,fun i j hi hj=>(hb.cell (p:=⟨b,off+i*5+j,none⟩) lb).trans (hc i j hi hj)⟩
theorem RowO.at {w:World} {p:Option Addr} {n:Nat} {xs:List Od} (h:RowO w p n xs) {i:Nat} (hi:i<n):∃ b off,p=some ⟨b,off,none⟩∧b<w.heap.size∧w.cell? ⟨b,off+i*5,none⟩=some (zI (xs.getD i od0).k)∧w.cell? ⟨b,off+i*5+1,none⟩=some (zI (xs.getD i od0).m)∧w.cell? ⟨b,off+i*5+2,none⟩=some (zI (xs.getD i od0).a)∧w.cell? ⟨b,off+i*5+3,none⟩=some (zI (xs.getD i od0).b)∧w.cell? ⟨b,off+i*5+4,none⟩=some (zI (xs.getD i od0).d):=by
 rcases h.row with h0 | ⟨b,off,rfl,lb,hc⟩
 ·omega
 ·exact ⟨b,off,rfl,lb,hc i 0 hi (by decide),hc i 1 hi (by decide),hc i 2 hi (by decide),hc i 3 hi (by decide),hc i 4 hi (by decide)⟩
structure Opn (W:World) (t:Tm) (pt:Option Addr) (lt ct:Nat) (a:Option Addr) (cap:Nat) (c:List Int) (ao:Option Addr) (no ko:Nat) (o:List Pr) (l:List Ev) (bk:List Cm):Prop where
 tc:acc.TCame W t pt lt ct
 dk:Dk W a 600 cap c
 oc:ora.Came W ao no ko o
 shop:Shop t c 600 l bk
theorem Opn.next {t:Tm} {pt:Option Addr} {lt ct:Nat} {a:Option Addr} {cap:Nat} {c:List Int} {ao:Option Addr} {no ko:Nat} {o:List Pr} {l:List Ev} {bk:List Cm} {W W':World} (h:Opn W t pt lt ct a cap c ao no ko o l bk) (hb:Below W.heap.size W W'):Opn W' t pt lt ct a cap c ao no ko o l bk:=⟨h.tc.below hb,h.dk.below hb,h.oc.below hb,h.shop⟩
structure St (W:World) (B:Nat) (t:Tm) (pt:Option Addr) (lt ct:Nat) (a:Option Addr) (cap:Nat) (c:List Int) (ao:Option Addr) (no ko:Nat) (o:List Pr) (l:List Ev) (bk:List Cm):Prop where
 box:Blk W B #[.slice pt lt ct,zI t.ff,zI t.fb,zI t.db,zI t.al,.slice a 600 cap,.slice ao no ko] 41
 is:Opn W t pt lt ct a cap c ao no ko o l bk
 farT:0<lt→∀ y,pt=some y→y.block≠B
 farO:0<no→∀ y,ao=some y→y.block≠B
theorem St.next {t:Tm} {pt:Option Addr} {lt ct:Nat} {a:Option Addr} {cap:Nat} {c:List Int} {ao:Option Addr} {no ko:Nat} {o:List Pr} {l:List Ev} {bk:List Cm} {W W':World} {B:Nat} (h:St W B t pt lt ct a cap c ao no ko o l bk) (hb:Below W.heap.size W W'):St W' B t pt lt ct a cap c ao no ko o l bk:=⟨h.box.next hb,h.is.next hb,h.farT,h.farO⟩
theorem came_updD {w W:World} {p:Option Addr} {n cap:Nat} {zs:List tar.Du} {B:Nat} {cs:Array Value} {T:TypeId} (h:tar.Came w p n cap zs) (hU:Upd w W B cs T) (hf:0<n→∀ y,p=some y→y.block≠B):tar.Came W p n cap zs:=by
 refine ⟨⟨h.row.1,?_⟩,h.nil,h.room,h.bytes,h.wf⟩;rcases h.row.2 with h0 | ⟨b,off,rfl,hc⟩
 ·exact .inl h0
 ·by_cases h0:n=0
  ·exact .inl h0
  ·have hne:b≠B:=hf (by omega) ⟨b,off,none⟩ rfl;exact .inr ⟨b,off,rfl,fun i hi=>⟨(hU.cell ⟨b,off+i*2,none⟩ hne rfl).trans (hc i hi).1,(hU.cell ⟨b,off+i*2+1,none⟩ hne rfl).trans (hc i hi).2⟩⟩
theorem no_u32 {t:Tm} {pt:Option Addr} {lt ct:Nat} {a:Option Addr} {cap:Nat} {c:List Int} {ao:Option Addr} {no ko:Nat} {o:List Pr} {l:List Ev} {bk:List Cm}:∀ (j:Nat) (z:Int),(#[.slice pt lt ct,zI t.ff,zI t.fb,zI t.db,zI t.al,.slice a 600 cap,.slice ao no ko]:Array Value)[j]?≠some (Value.int .u32 z):=fun j z=>by
 match j with
 | 0=>simp
 | 1=>simp
 | 2=>simp
 | 3=>simp
 | 4=>simp
 | 5=>simp
 | 6=>simp
 | j+7=>simp
theorem St.words {t:Tm} {pt:Option Addr} {lt ct:Nat} {a:Option Addr} {cap:Nat} {c:List Int} {ao:Option Addr} {no ko:Nat} {o:List Pr} {l:List Ev} {bk:List Cm} {W W':World} {B:Nat} (h:St W B t pt lt ct a cap c ao no ko o l bk) {a2:Option Addr} {cap2:Nat} {c2:List Int} {l2:List Ev} {bk2:List Cm} (hd:Dk W a2 600 cap2 c2) (hs:Shop t c2 600 l2 bk2) (hU:Upd W W' B #[.slice pt lt ct,zI t.ff,zI t.fb,zI t.db,zI t.al,.slice a2 600 cap2,.slice ao no ko] 41):St W' B t pt lt ct a2 cap2 c2 ao no ko o l2 bk2:=
 ⟨hU.blk,⟨⟨came_updD h.is.tc.ts hU h.farT,h.is.tc.wf⟩,dk_upd hd hU (dk_far hd h.box (no_u32 (t:=t) (pt:=pt) (lt:=lt) (ct:=ct) (a:=a) (cap:=cap) (c:=c) (ao:=ao) (no:=no) (ko:=ko) (o:=o) (l:=l) (bk:=bk))),came_upd h.is.oc hU h.farO,hs⟩,h.farT,h.farO⟩
theorem St.ora {t:Tm} {pt:Option Addr} {lt ct:Nat} {a:Option Addr} {cap:Nat} {c:List Int} {ao:Option Addr} {no ko:Nat} {o:List Pr} {l:List Ev} {bk:List Cm} {W W':World} {B:Nat} (h:St W B t pt lt ct a cap c ao no ko o l bk) {a2:Option Addr} {n2 k2:Nat} {o2:List Pr} (ho:ora.Came W a2 n2 k2 o2) (hf:0<n2→∀ y,a2=some y→y.block≠B) (hU:Upd W W' B #[.slice pt lt ct,zI t.ff,zI t.fb,zI t.db,zI t.al,.slice a 600 cap,.slice a2 n2 k2] 41):St W' B t pt lt ct a cap c a2 n2 k2 o2 l bk:=
 ⟨hU.blk,⟨⟨came_updD h.is.tc.ts hU h.farT,h.is.tc.wf⟩,dk_upd h.is.dk hU (dk_far h.is.dk h.box (no_u32 (t:=t) (pt:=pt) (lt:=lt) (ct:=ct) (a:=a) (cap:=cap) (c:=c) (ao:=ao) (no:=no) (ko:=ko) (o:=o) (l:=l) (bk:=bk))),came_upd ho hU hf,h.is.shop⟩,h.farT,hf⟩
def EvPost (w:World) (l:List Ev) (e:Ending) (w':World):Prop:=∃ V,e = .returned (.tuple #[V,.bool true])∧book.Le w' w.heap.size V l∧Below w.heap.size w w'
theorem dec_ev {v v':Ev} {f:Int} (hv:EMay v) (h:book.DecIs (evL v) v' f):v=v'∧f=0:=by
 obtain ⟨h1,h2⟩:=h.one (.inr (.inr ⟨rfl,by rw [book.evOf_L];exact hv,(book.evOf_L v).symm,rfl⟩));exact ⟨h1.symm,h2⟩
theorem take_ev (l:List Ev) (k:Nat) (hk:k<l.length):l.take k++[l.getD k ev0]=l.take (k+1):=by
 rw [List.take_succ_eq_append_getElem hk];simp [List.getD,hk]
theorem le_base {w:World} {B B':Nat} {V:Value} {l:List Ev} (h:book.Le w B' V l) (hb:B≤B'):book.Le w B V l:=by
 refine ⟨h.1,?_⟩;rcases h.2 with hn | ⟨g,cap,cur,hv,hg,rest⟩
 ·exact .inl hn
 ·exact .inr ⟨g,cap,cur,hv,Nat.le_trans hb hg,rest⟩
theorem events_any (K7:disk.KReplay) (K8:book.KDec) (t:Tm) (pt:Option Addr) (lt ct:Nat) (a:Option Addr) (cap:Nat) (c:List Int) (ao:Option Addr) (no ko:Nat) (o:List Pr) (l:List Ev) (bk:List Cm) (w:World) (h:Opn w t pt lt ct a cap c ao no ko o l bk) (hl:l.length≤100) :
  Calls Tryz.prog 16 #[.agg #[.slice pt lt ct,zI t.ff,zI t.fb,zI t.db,zI t.al,.slice a 600 cap,.slice ao no ko]] w fun e w'=>EvPost w l e w':=by
 have HBX:Hid (Blk (w.alloc (.cells #[.slice pt lt ct,zI t.ff,zI t.fb,zI t.db,zI t.al,.slice a 600 cap,.slice ao no ko] 41)) w.heap.size #[.slice pt lt ct,zI t.ff,zI t.fb,zI t.db,zI t.al,.slice a 600 cap,.slice ao no ko] 41):=Blk.new w _ _;have HB0:Hid (Below w.heap.size w (w.alloc (.cells #[.slice pt lt ct,zI t.ff,zI t.fb,zI t.db,zI t.al,.slice a 600 cap,.slice ao no ko] 41))):=(Below.refl _ _).alloc (Nat.le_refl _) _;have hd:=h.dk.below HB0.o;have HRP:Hid (Calls Tryz.prog 35 #[.slice a 600 cap] (w.alloc (.cells #[.slice pt lt ct,zI t.ff,zI t.fb,zI t.db,zI t.al,.slice a 600 cap,.slice ao no ko] 41)) fun e w'=>disk.RepNew (w.alloc (.cells #[.slice pt lt ct,zI t.ff,zI t.fb,zI t.db,zI t.al,.slice a 600 cap,.slice ao no ko] 41)) c e w'):=K7 _ a 600 cap c hd.row hd.nil hd.room hd.bytes hd.wd;have HTP:Hid (disk.Tape c (l.map evL) (14*l.length)):=h.shop.tape;have HMY:Hid (∀ k,k<l.length→EMay (l.getD k ev0)):=fun k hk=>h.shop.may _ (getD_inE hk);have HK8:Hid book.KDec:=K8;clear h hd K7 K8;generalize hWW:w.alloc (.cells #[.slice pt lt ct,zI t.ff,zI t.fb,zI t.db,zI t.al,.slice a 600 cap,.slice ao no ko] 41)=W0 at *;have HWW:Hid (w.alloc (.cells #[.slice pt lt ct,zI t.ff,zI t.fb,zI t.db,zI t.al,.slice a 600 cap,.slice ao no ko] 41)=W0):=hWW;clear hWW;go_enter Tryz.func16,Tryz.ntmps16;go_upto_region 1 with fail
 rw [HWW.o];clear HWW;have q5:W0.cell? ⟨w.heap.size,5,none⟩=some (.slice a 600 cap):=HBX.o.cell 5;go_wp2_with fail;refine HRP.o.mono ?_;rintro e w1 ⟨ra,n,rc,outs,x,f,rfl,hrd,hn,hri,hb⟩;obtain ⟨rfl,hx,rfl⟩:=HTP.o.rep hri;have HLN:Hid (l.length=n):=by have h1:=hrd.1;rw [List.length_map] at h1;exact h1
 have HRD:Hid (disk.ReadsF w1 W0.heap.size ra n (l.map evL)):=hrd;have HB1:=shB HB0 hb;have hn100:n≤100:=by have:=HLN.o;omega
 clear hrd hri hb hx HRP HTP q5 HBX HB0;go_wp2_with fail;go_loopw [7,8] (fun v7 v8 wr=>∃ (k:Nat) (V:Value),k≤n∧V=v7∧v8=zI (k:Int)∧book.Le wr w1.heap.size V (l.take k)∧Below w1.heap.size w1 wr) (fun _ v8 _=>n - (intOf v8).toNat)
 case atStart=>exact ⟨0,_,Nat.zero_le _,rfl,rfl,book.Le.zero _ _,Below.refl _ _⟩
 case round=>
  obtain ⟨k,V,hk,hV,rfl,hle,hbl⟩:=hrel;subst hV;have HLE:Hid (book.Le wr w1.heap.size V (l.take k)):=hle;have HBL:Hid (Below w1.heap.size w1 wr):=hbl;have HBW:=shB HB1 hbl;clear hle hbl;by_cases hlt:k<n
  ·have hkl:k<l.length:=by rw [HLN.o];exact hlt
   obtain ⟨b,off,rfl,_,lb,hc⟩:=HRD.o.2.resolve_left (by omega);obtain ⟨s,h1,h2,h3,_⟩:=hc k hlt;rw [getD_mapL l k hkl] at h2;have hmay:=HMY.o k hkl;have c0:wr.cell? ⟨b,off+k,none⟩=some (.slice s.a s.n s.c):=(HBL.o.cell (p:=⟨b,off+k,none⟩) lb).trans h1;have HDC:Hid (Calls Tryz.prog 36 #[.slice s.a s.n s.c] wr fun e w'=>book.DecGot wr (evL (l.getD k ev0)) e w'):=HK8.o wr s.a s.n s.c _ (h2.below HBL.o) h3.2.2 h3.2.1 (by have:=h3.1;omega) (book.may_word hmay);have HTK:Hid (l.take k++[l.getD k ev0]=l.take (k+1)):=take_ev l k hkl;have HMV:Hid (EMay (l.getD k ev0)):=hmay;have hs6:(l.take k).length≤1000000:=by rw [List.length_take];omega
   have d1:decide ((k:Int)<(n:Int))=true:=by simp;omega
   clear hc h1 h2 h3 hmay hkl;generalize l.getD k ev0=v at *;go_wp2_with fail;refine HDC.o.mono ?_;rintro e w2 ⟨v',f,rfl,hdi,hb2⟩;obtain ⟨rfl,rfl⟩:=dec_ev HMV.o hdi;unfold book.Ev.v;have hlw:wr.heap.size≤w2.heap.size:=hb2.size;have HE2:Hid (Blk (w2.alloc (.cells #[zI 0,zI 0,zI 0,zI 0,zI 0,zI 0,zI 0,zI 0,zI 0,zI 0,zI 0,zI 0,zI 0] 72)) w2.heap.size #[zI 0,zI 0,zI 0,zI 0,zI 0,zI 0,zI 0,zI 0,zI 0,zI 0,zI 0,zI 0,zI 0] 72):=Blk.new w2 _ _;have HA2:Hid (Below wr.heap.size wr (w2.alloc (.cells #[zI 0,zI 0,zI 0,zI 0,zI 0,zI 0,zI 0,zI 0,zI 0,zI 0,zI 0,zI 0,zI 0] 72))):=hb2.alloc hb2.size _;clear hdi hb2 HDC c0 HMV;go_wp2_with (first | (refine zql rfl rfl rfl rfl zqu72 (by simp [Value.oneCell']) HE2 rfl ?_) | fail)
   intro w3 hU;have HE3:Hid (Blk w3 w2.heap.size #[zI v.kd,zI v.me,zI v.mo,zI v.id,zI v.te,zI v.de,zI v.fe,zI v.pr,zI v.ch,zI v.un,zI v.tg,zI v.ow,zI v.bp] 72):=hU.blk;have hb3:Below wr.heap.size wr w3:=hU.bel _ _ hlw HA2.o;have HB3:=shB HBL hb3;have HW3:=shB HBW hb3;have HL3:Hid (book.Le w3 w1.heap.size V (l.take k)):=HLE.o.next hb3;have hs3:w.heap.size≤w3.heap.size:=HW3.o.size;have hs13:w1.heap.size≤w3.heap.size:=HB3.o.size;clear hU hb3 HE2 HA2 HLE HBL HBW;have HL4:Hid (∀ o,book.Le (w3.alloc o) w1.heap.size V (l.take k)):=fun o=>HL3.o.alloc o;have HW4:Hid (∀ o,Below w.heap.size w (w3.alloc o)):=fun o=>HW3.o.alloc HW3.o.size o;have HS4:Hid (∀ o,w1.heap.size≤(w3.alloc o).heap.size):=fun o=>(HB3.o.alloc HB3.o.size o).size;have HG4:Hid (∀ o,Below w1.heap.size w1 (w3.alloc o)):=fun o=>HB3.o.alloc HB3.o.size o
   go_wp2_with (first
    | (refine zqw rfl rfl rfl HE3 zqu72 ?_)
    | (refine book.wp_ev rfl _ _ rfl w1.heap.size w3.heap.size V (l.take k) v rfl rfl (HL4.o _) (Blk.new w3 _ _) hs6 (HS4.o _) ?_;intro v4 w4 h4 hg4;have HB4:Hid (Below w1.heap.size w1 w4):=cell.own_bel (HL4.o _) hg4 (HG4.o _) (Nat.le_refl _) (HS4.o _);have H4:Hid (book.Le w4 w1.heap.size v4 (l.take (k+1))):=(by rw [← HTK.o];exact h4);clear h4 hg4)
    | fail)
   go_roundw
   case rel=>exact ⟨k+1,v4,by omega,rfl,by go_num,H4.o,HB4.o⟩
   case measure=>simp [intOf];omega
  ·have hkn:k=n:=by omega
   have HFN:Hid (book.Le wr w.heap.size V l):=by
    have h:=le_base HLE.o HB1.o.size;rw [hkn,List.take_of_length_le (by rw [HLN.o];exact Nat.le_refl _)] at h;exact h
   have d1:decide ((k:Int)<(n:Int))=false:=by simp;omega
   clear hkn HLE;go_wp2_with fail;go_ret2;exact ⟨V,rfl,HFN.o,HBW.o⟩
end vnd
namespace token
open Go.ChangeShapes Go.WideShapes Go.ChangeAt Go.RowKit Go.Deep
def Eight (w:World) (g:Nat) (a0 a1 a2 a3 a4 a5 a6 a7:Int):Prop:=
 ∃ t fr,w.heap[g]?=some (.cells #[zI a0,zI a1,zI a2,zI a3,zI a4,zI a5,zI a6,zI a7] t fr)
structure TTab (w:World):Prop where
 places:Eight w 1 57 3 37 20 16 21 0 16
 amounts:Eight w 0 1 2097151 0 0 1 15 0 0
theorem Eight.lt {w:World} {g:Nat} {a0 a1 a2 a3 a4 a5 a6 a7:Int} (h:Eight w g a0 a1 a2 a3 a4 a5 a6 a7):g<w.heap.size:=by
 obtain ⟨t,fr,h⟩:=h;by_cases hh:g<w.heap.size
 ·exact hh
 ·rw [Array.getElem?_eq_none (by omega)] at h;cases h
theorem Eight.below {w w':World} {g:Nat} {a0 a1 a2 a3 a4 a5 a6 a7:Int} (h:Eight w g a0 a1 a2 a3 a4 a5 a6 a7) (hb:Below w.heap.size w w'):Eight w' g a0 a1 a2 a3 a4 a5 a6 a7:=by
 have hl:=h.lt;obtain ⟨t,fr,h⟩:=h;exact ⟨t,fr,by rw [hb.block g hl];exact h⟩
theorem TTab.below {w w':World} (h:TTab w) (hb:Below w.heap.size w w'):TTab w':=⟨h.places.below hb,h.amounts.below hb⟩
theorem list8 {α:Type} (l:List α) (h:l.length=8):∃ a b c d e f g i,l=[a,b,c,d,e,f,g,i]:=by
 match l,h with
 | [a,b,c,d,e,f,g,i],_=>exact ⟨a,b,c,d,e,f,g,i,rfl⟩
theorem two_of {H:Type} {enc:TypeId × Value→H} {P:Program} {w:World} {base:Nat} {spare:Nat→Bool} {held:Bool} {fuel:Nat} {t e:TypeId} {f0 f1:Field} {c0 c1:Value} {a0 a1:Int} {p:List MemPlace}
  (ht:P.underlying t=some (.struct #[f0,f1])) (hone:oneCellFields P #[f0,f1]=true) (he:P.underlying e=some (.int .i64)) (e0:f0.type=e) (e1:f1.type=e)
  (h:DataW.trod enc P w base spare held fuel t [c0,c1]=some (.agg [.lit (.int .i64 a0),.lit (.int .i64 a1)],p)):c0=zI a0∧c1=zI a1:=by
 obtain ⟨y0,y1,n,hx,_,h0,h1⟩:=trod_struct2 ht h;obtain ⟨o0,k0⟩:=hone_of hone 0 f0 rfl;obtain ⟨o1,k1⟩:=hone_of hone 1 f1 rfl;rw [o0,k0,e0] at h0;rw [o1,k1,e1] at h1;obtain ⟨x0,u0,rfl,_⟩:=DataW.trod_int he h0;obtain ⟨x1,u1,rfl,_⟩:=DataW.trod_int he h1;simp at u0 u1 hx;obtain ⟨⟨rfl,rfl⟩,_⟩:=hx;exact ⟨u0,u1⟩
theorem trod_array4w {H:Type} {enc:TypeId × Value→H} {P:Program} {w:World} {base:Nat} {spare:Nat→Bool} {held:Bool} {t e:TypeId} {fuel:Nat} {cs:List Value} {x:DataW H × List MemPlace} (ht:P.underlying t=some (.array 4 e)) (hce:P.cellsOf e=2) (hct:P.cellsOf t=8)
  (h:DataW.trod enc P w base spare held fuel t cs=some x) :
  cs.length=8∧∃ y0 y1 y2 y3 n,x=(.agg [y0.1,y1.1,y2.1,y3.1],y0.2++(y1.2++(y2.2++y3.2)))∧DataW.trod enc P w base spare held n e (cs.take 2)=some y0∧DataW.trod enc P w base spare held n e ((cs.drop 2).take 2)=some y1∧DataW.trod enc P w base spare held n e ((cs.drop 4).take 2)=some y2∧DataW.trod enc P w base spare held n e ((cs.drop 6).take 2)=some y3:=by
 cases fuel with
 | zero=>simp [DataW.trod] at h
 | succ n=>
  unfold DataW.trod at h;rw [ht] at h;have r4:List.range 4=[0,1,2,3]:=rfl;simp [r4,hce,hct] at h;obtain ⟨hl,h⟩:=h;refine ⟨hl,?_⟩;cases h0:DataW.trod enc P w base spare held n e (cs.take 2) with
  | none=>simp [h0] at h
  | some y0=>
   cases h1:DataW.trod enc P w base spare held n e ((cs.drop 2).take 2) with
   | none=>simp [h0,h1] at h
   | some y1=>
    cases h2:DataW.trod enc P w base spare held n e ((cs.drop 4).take 2) with
    | none=>simp [h0,h1,h2] at h
    | some y2=>
     cases h3:DataW.trod enc P w base spare held n e ((cs.drop 6).take 2) with
     | none=>simp [h0,h1,h2,h3] at h
     | some y3=>
      simp [h0,h1,h2,h3] at h;exact ⟨y0,y1,y2,y3,n,by rw [← h],h0,h1,h2,h3⟩
theorem eight_of {W:World} {name:String} {rest:List (String × DataW Unit)} {g:Nat} {t e z:TypeId} {f0 f1:Field} {a0 a1 a2 a3 a4 a5 a6 a7:Int}
  (hg:Tryz.prog.globalNamed name=some g) (hty:(Tryz.prog.globals[g]?).map (·.type)=some t) (ht:Tryz.prog.underlying t=some (.array 4 e)) (hce:Tryz.prog.cellsOf e=2) (hct:Tryz.prog.cellsOf t=8)
  (hs:Tryz.prog.underlying e=some (.struct #[f0,f1])) (hone:oneCellFields Tryz.prog #[f0,f1]=true) (hz:Tryz.prog.underlying z=some (.int .i64)) (e0:f0.type=z) (e1:f1.type=z)
  (h:laidMet Tryz.prog ((name,.agg [.agg [.lit (.int .i64 a0),.lit (.int .i64 a1)],.agg [.lit (.int .i64 a2),.lit (.int .i64 a3)],.agg [.lit (.int .i64 a4),.lit (.int .i64 a5)],.agg [.lit (.int .i64 a6),.lit (.int .i64 a7)]]) :: rest) W):Eight W g a0 a1 a2 a3 a4 a5 a6 a7:=by
 obtain ⟨ps,⟨g',t',cs,fuel,p,q,hg',ht',hvar,hd,_,_⟩,_⟩:=h;obtain rfl:=Option.some.inj (hg.symm.trans hg');obtain rfl:=Option.some.inj (hty.symm.trans ht');obtain ⟨hl,y0,y1,y2,y3,n,hx,h0,h1,h2,h3⟩:=trod_array4w ht hce hct hd;simp only [Prod.mk.injEq,DataW.agg.injEq,List.cons.injEq,and_true] at hx;obtain ⟨⟨x0,x1,x2,x3⟩,_⟩:=hx;obtain ⟨y0,q0⟩:=y0;obtain ⟨y1,q1⟩:=y1;obtain ⟨y2,q2⟩:=y2;obtain ⟨y3,q3⟩:=y3;simp only at x0 x1 x2 x3;subst x0 x1 x2 x3;obtain ⟨c0,c1,c2,c3,c4,c5,c6,c7,hcs⟩:=list8 _ hl;rw [hcs] at h0 h1 h2 h3;obtain ⟨rfl,rfl⟩:=two_of hs hone hz e0 e1 h0;obtain ⟨rfl,rfl⟩:=two_of hs hone hz e0 e1 h1;obtain ⟨rfl,rfl⟩:=two_of hs hone hz e0 e1 h2;obtain ⟨rfl,rfl⟩:=two_of hs hone hz e0 e1 h3;unfold World.var? at hvar;rw [hg] at hvar;simp only [Option.bind_some] at hvar;split at hvar
 ·rename_i cs' t' fr hc
  have hcs':=Option.some.inj hvar;refine ⟨t',fr,?_⟩;rw [hc,hcs']
  congr 2
  first
  | (cases cs;simp_all)
  | simp_all
 ·cases hvar
end token
namespace words
open Go.RowKit
theorem sh_lt (v:Nat) (k:Int) (hv:v<2 ^ 64):sh v k<2 ^ 64:=by
 unfold sh;split
 ·exact Nat.lt_of_le_of_lt (Nat.div_le_self _ _) hv
 ·exact Nat.mod_lt _ (by decide)
theorem ones_lt (n:Nat) (h:n≤64):onesN n<2 ^ 64:=by
 unfold onesN;have:=Nat.pow_le_pow_right (show 0<2 by decide) h;have h2:0<2 ^ n:=Nat.two_pow_pos _;omega
theorem idx0 (x y z:Int) (w:World):(Instr.index 131 (.agg #[.int .u32 x,.int .u32 y,.int .u32 z]) (zI 0)).run Tryz.prog w = .ok (.int .u32 x) w:=by kernel_rfl
theorem idx1 (x y z:Int) (w:World):(Instr.index 131 (.agg #[.int .u32 x,.int .u32 y,.int .u32 z]) (zI 1)).run Tryz.prog w = .ok (.int .u32 y) w:=by kernel_rfl
theorem idx2 (x y z:Int) (w:World):(Instr.index 131 (.agg #[.int .u32 x,.int .u32 y,.int .u32 z]) (zI 2)).run Tryz.prog w = .ok (.int .u32 z) w:=by kernel_rfl
theorem bits_any (a b c lo n:Nat) (w:World) (ha:a<2 ^ 32) (hb:b<2 ^ 32) (hc:c<2 ^ 32) (n0:1≤n) (n1:n≤64) (hl:lo+n≤96) :
  Calls Tryz.prog 186 #[.agg #[.int .u32 (a:Int),.int .u32 (b:Int),.int .u32 (c:Int)],zI (lo:Int),zI (n:Int)] w fun e w'=>e = .returned (.tuple #[.int .u64 (bitsN a b c lo n:Nat),zI 0])∧Below w.heap.size w w':=by
 have a1:(a:Int)<4294967296:=by omega
 have b1:(b:Int)<4294967296:=by omega
 have c1:(c:Int)<4294967296:=by omega
 have HB:Hid (Below w.heap.size w (w.alloc (.cells #[.int .u32 (a:Int),.int .u32 (b:Int),.int .u32 (c:Int)] 131))):=(Below.refl _ w).alloc (Nat.le_refl _) _;have hE:bitsN a b c lo n=(sh a (-(lo:Int)) ||| sh b (32 - (lo:Int)) ||| sh c (64 - (lo:Int))) &&& onesN n:=by unfold bitsN;rw [Int.zero_sub]
 have HE:Hid (bitsN a b c lo n=(sh a (-(lo:Int)) ||| sh b (32 - (lo:Int)) ||| sh c (64 - (lo:Int))) &&& onesN n):=hE;clear hE;have i0:=idx0 (a:Int) (b:Int) (c:Int);have i1:=idx1 (a:Int) (b:Int) (c:Int);have i2:=idx2 (a:Int) (b:Int) (c:Int);go_enter Tryz.func186,Tryz.ntmps186;go_wp2_with fail;refine (isField_yes _ _ _ (by omega) (by omega) (by omega) (by omega)).mono ?_;rintro e wr ⟨rfl,rfl⟩;go_wp2_with fail;refine wp_loop_rounds 4 ?_;rw [rounds_succ];go_wp2_with fail;refine (shift_any a _ _ (by omega) (by omega) (by omega)).mono ?_;rintro e wr ⟨rfl,rfl⟩
 have o1:bits .or .u64 0 ((sh a (-(lo:Int)):Nat):Int)=((sh a (-(lo:Int)):Nat):Int):=by
  have:=or64 0 (sh a (-(lo:Int))) (by decide) (sh_lt _ _ (by omega));simpa using this
 have l0:sh a (-(lo:Int))<2 ^ 64:=sh_lt _ _ (by omega);generalize sh a (-(lo:Int))=s0 at *;go_wp2_with fail;rw [rounds_succ];go_wp2_with fail;refine (shift_any b _ _ (by omega) (by omega) (by omega)).mono ?_;rintro e wr ⟨rfl,rfl⟩;have l1:sh b (32 - (lo:Int))<2 ^ 64:=sh_lt _ _ (by omega);have o2:=or64 s0 (sh b (32 - (lo:Int))) l0 l1;have l01:=Nat.or_lt_two_pow l0 l1;clear o1;generalize sh b (32 - (lo:Int))=s1 at *;go_wp2_with fail;rw [rounds_succ];go_wp2_with fail;refine (shift_any c _ _ (by omega) (by omega) (by omega)).mono ?_;rintro e wr ⟨rfl,rfl⟩;have l2:sh c (64 - (lo:Int))<2 ^ 64:=sh_lt _ _ (by omega);have o3:=or64 (s0 ||| s1) (sh c (64 - (lo:Int))) l01 l2;have l02:=Nat.or_lt_two_pow l01 l2;clear o2;generalize sh c (64 - (lo:Int))=s2 at *;go_wp2_with fail;rw [rounds_succ];go_wp2_with fail;refine (ones_any n _ (by omega) (by omega)).mono ?_;rintro e wr ⟨rfl,rfl⟩;have ln:onesN n<2 ^ 64:=ones_lt n (by omega);have o4:=and64 (s0 ||| s1 ||| s2) (onesN n) l02 ln;clear o3;go_wp2_with fail;go_ret2;exact ⟨by rw [HE.o];rfl,HB.o⟩
end words
namespace vnd
open Go.ChangeShapes Go.WideShapes Go.ChangeAt Go.RowKit Go.Deep
def Od.v (x:Od):Value:= .agg #[zI x.k,zI x.m,zI x.a,zI x.b,zI x.d]
theorem od_cells {H:Type} {enc:TypeId × Value→H} {W:World} {b1:Nat} {spare:Nat→Bool} {held:Bool} {fuel:Nat} {cs:List Value} {x:DataW H × List MemPlace}
  (hsz:cs.length=5) (hf:DataW.trod enc Tryz.prog W b1 spare held fuel 75 cs=some x) :
  ∃ x:Od,cs=x.cs.toList∧wf5 x:=by
 have hu:=Tryz.underlying75;have ci:Tryz.prog.cellsOf 3=1:=by kernel_rfl
 obtain ⟨c0,c1,c2,c3,c4,rfl⟩:∃ c0 c1 c2 c3 c4,cs=[c0,c1,c2,c3,c4]:=by
  match cs,hsz with
  | [c0,c1,c2,c3,c4],_=>exact ⟨c0,c1,c2,c3,c4,rfl⟩
 obtain ⟨xs,n,_,_,_,hlen,hg⟩:=DataW.trod_struct hu hf
 match xs,hlen with
 | [y0,y1,y2,y3,y4],_=>
  have g0:=hg 0 _ rfl;have g1:=hg 1 _ rfl;have g2:=hg 2 _ rfl;have g3:=hg 3 _ rfl;have g4:=hg 4 _ rfl;simp [ci] at g0 g1 g2 g3 g4;obtain ⟨x0,e0,-,w0⟩:=DataW.trod_int Tryz.underlying3 g0;obtain ⟨x1,e1,-,w1⟩:=DataW.trod_int Tryz.underlying3 g1;obtain ⟨x2,e2,-,w2⟩:=DataW.trod_int Tryz.underlying3 g2;obtain ⟨x3,e3,-,w3⟩:=DataW.trod_int Tryz.underlying3 g3;obtain ⟨x4,e4,-,w4⟩:=DataW.trod_int Tryz.underlying3 g4;simp at e0 e1 e2 e3 e4;subst e0 e1 e2 e3 e4;exact ⟨⟨x0,x1,x2,x3,x4⟩,rfl,w0,w1,w2,w3,w4⟩
theorem rowO_of {w:World} {a:Addr} {m len:Nat} (hl:len≤m)
  (h:∀ i,i<m→∃ y:Od,(∀ j,j<5→w.cell? (a.add (i*5+j))=y.cs.toList[j]?)∧wf5 y) :
  ∃ zs:List Od,RowO w (some a) len zs:=by
 haveI:Inhabited Od:=⟨od0⟩
 obtain ⟨f,hf⟩:=Deep.choose_lt h;have e:∀ i,i<len→((List.range len).map f).getD i od0=f i:=fun i hi=>by simp [List.getD,hi]
 refine ⟨(List.range len).map f,⟨by simp,?_,fun i hi=>by rw [e i hi];exact (hf i (by omega)).2⟩⟩;by_cases h0:len=0
 ·exact .inl h0
 ·obtain ⟨b,off,spot⟩:=a;have e0:w.cell? ((⟨b,off,spot⟩:Addr).add (0*5+0))=some (zI (f 0).k):=(hf 0 (by omega)).1 0 (by omega);have hs:spot=none:=by simpa [Addr.add] using World.cell?_spot e0
  subst hs;refine .inr ⟨b,off,rfl,?_,fun i j hi hj=>?_⟩
  ·rw [Addr.add_lit] at e0;exact World.block_lt_of_cell? w _ e0
  ·have h1:=(hf i (by omega)).1 j hj;rw [Addr.add_lit,← Nat.add_assoc] at h1;rw [e i hi,h1];simp
theorem open_orders {H:Type} {enc:TypeId × Value→H} {W:World} {r:Reach} {b0 b1:Nat} {held:Bool} {v:Value} {d:DataW H} {ps:List MemPlace}
  (hval:Value.okWide Tryz.prog W r b0 36 v) (h:DataW.Trod enc Tryz.prog W b1 (fun _=>true) held 36 v d ps) (hs:∀ n∈d.weights Tryz.prog 36,n≤reachBytes) :
  ∃ (p:Option Addr) (len cap:Nat) (l:List Od),v = .slice p len cap∧RowO W p len l:=by
 have hu:=Tryz.underlying36;have hc:Tryz.prog.cellsOf 75=5:=by kernel_rfl
 obtain ⟨p,len,cap,rfl⟩:=okWide_slice hu hval;obtain ⟨fuel,hf⟩:=h;rcases Deep.open_slice hu hf with ⟨hcs,_⟩ | ⟨a,l,c,m,n,D,Pl,hcs,_,hl,hm,hmm,hy,hall⟩
 ·simp [Value.cells] at hcs;obtain ⟨rfl,rfl,rfl⟩:=hcs;exact ⟨none,0,0,[],rfl,⟨rfl,.inl rfl,fun i hi=>absurd hi (Nat.not_lt_zero _)⟩⟩
 ·simp [Value.cells] at hcs;obtain ⟨rfl,rfl,rfl⟩:=hcs;simp only [if_true] at hmm;subst hmm;rw [hc] at hall
  obtain ⟨zs,r1⟩:=rowO_of (w:=W) (a:=a) (m:=m) hl (fun i hi=>by
   obtain ⟨cs',h1,h2⟩:=hall i hi;obtain ⟨_,hlen,hcell⟩:=World.cells?_some h1;obtain ⟨y,rfl,hw⟩:=od_cells hlen h2
   exact ⟨y,fun j hj=>by have:=hcell j hj;rwa [Deep.add_add] at this,hw⟩)
  exact ⟨some a,len,m,zs,rfl,r1⟩
end vnd
end Go.Proofs.YtnpblpbohcegoaaGreatDoor
