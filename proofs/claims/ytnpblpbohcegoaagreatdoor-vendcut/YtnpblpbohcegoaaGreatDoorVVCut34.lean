import Derived.Test.YtnpblpbohcegoaaGreatDoorVVCut32
import Derived.Test.YtnpblpbohcegoaaGreatDoorVVCut33
set_option linter.unusedVariables false
set_option linter.unusedSimpArgs false
set_option maxHeartbeats 4000000
set_option maxRecDepth 100000
namespace Go.Proofs.YtnpblpbohcegoaaGreatDoor
namespace vnd
open disk (RepIs AppIs May repD lenAt appW Wds)
open book (Ev ev0 EMay evL evOf EncIs DecIs Cm cm0 So so0 BookIs FirstAt NoneAt StepIs HapIs)
open acc (Ac Tm Bi)
open ora (Pr IssueIs)
open cell (Wr wrt RowU RowW)
open rcp (Rc rc0)
open Go.RowKit
def Od.cs (x:Od):Array Value:=#[zI x.k,zI x.m,zI x.a,zI x.b,zI x.d]
structure RowO (w:World) (p:Option Addr) (n:Nat) (xs:List Od):Prop where
 len:xs.length=n
 row:n=0∨∃ b off,p=some ⟨b,off,none⟩∧b<w.heap.size∧∀ i j,i<n→j<5→w.cell? ⟨b,off+i*5+j,none⟩=(xs.getD i od0).cs[j]?
 wf:∀ i,i<n→wf5 (xs.getD i od0)
theorem RowO.below {w w':World} {p:Option Addr} {n:Nat} {xs:List Od} (h:RowO w p n xs) (hb:Below w.heap.size w w'):RowO w' p n xs:=by
 refine ⟨h.len,?_,h.wf⟩;rcases h.row with h0 | ⟨b,off,rfl,lb,hc⟩
 ·exact .inl h0
 ·exact .inr ⟨b,off,rfl,Nat.lt_of_lt_of_le lb hb.size,fun i j hi hj=>(hb.cell (p:=⟨b,off+i*5+j,none⟩) lb).trans (hc i j hi hj)⟩
theorem RowO.at {w:World} {p:Option Addr} {n:Nat} {xs:List Od} (h:RowO w p n xs) {i:Nat} (hi:i<n):∃ b off,p=some ⟨b,off,none⟩∧b<w.heap.size∧w.cell? ⟨b,off+i*5,none⟩=some (zI (xs.getD i od0).k)∧w.cell? ⟨b,off+i*5+1,none⟩=some (zI (xs.getD i od0).m)∧w.cell? ⟨b,off+i*5+2,none⟩=some (zI (xs.getD i od0).a)∧w.cell? ⟨b,off+i*5+3,none⟩=some (zI (xs.getD i od0).b)∧w.cell? ⟨b,off+i*5+4,none⟩=some (zI (xs.getD i od0).d):=by
 rcases h.row with h0 | ⟨b,off,rfl,lb,hc⟩
 ·omega
 ·exact ⟨b,off,rfl,lb,hc i 0 hi (by decide),hc i 1 hi (by decide),hc i 2 hi (by decide),hc i 3 hi (by decide),hc i 4 hi (by decide)⟩
structure Opn (W:World) (t:Tm) (pt:Option Addr) (lt ct:Nat) (a:Option Addr) (cap:Nat) (c:List Int) (ao:Option Addr) (no ko:Nat) (o:List Pr) (l:List Ev) (bk:List Cm):Prop where
 tc:acc.TCame W t pt lt ct
 dk:Dk W a 600 cap c
 oc:ora.Came W ao no ko o
 shop:Shop t c 600 l bk
theorem Opn.next {t:Tm} {pt:Option Addr} {lt ct:Nat} {a:Option Addr} {cap:Nat} {c:List Int} {ao:Option Addr} {no ko:Nat} {o:List Pr} {l:List Ev} {bk:List Cm} {W W':World} (h:Opn W t pt lt ct a cap c ao no ko o l bk) (hb:Below W.heap.size W W'):Opn W' t pt lt ct a cap c ao no ko o l bk:=⟨h.tc.below hb,h.dk.below hb,h.oc.below hb,h.shop⟩
structure St (W:World) (B:Nat) (t:Tm) (pt:Option Addr) (lt ct:Nat) (a:Option Addr) (cap:Nat) (c:List Int) (ao:Option Addr) (no ko:Nat) (o:List Pr) (l:List Ev) (bk:List Cm):Prop where
 box:Blk W B #[.slice pt lt ct,zI t.ff,zI t.fb,zI t.db,zI t.al,.slice a 600 cap,.slice ao no ko] 41
 is:Opn W t pt lt ct a cap c ao no ko o l bk
 farT:0<lt→∀ y,pt=some y→y.block≠B
 farO:0<no→∀ y,ao=some y→y.block≠B
theorem St.next {t:Tm} {pt:Option Addr} {lt ct:Nat} {a:Option Addr} {cap:Nat} {c:List Int} {ao:Option Addr} {no ko:Nat} {o:List Pr} {l:List Ev} {bk:List Cm} {W W':World} {B:Nat} (h:St W B t pt lt ct a cap c ao no ko o l bk) (hb:Below W.heap.size W W'):St W' B t pt lt ct a cap c ao no ko o l bk:=⟨h.box.next hb,h.is.next hb,h.farT,h.farO⟩
theorem came_updD {w W:World} {p:Option Addr} {n cap:Nat} {zs:List tar.Du} {B:Nat} {cs:Array Value} {T:TypeId} (h:tar.Came w p n cap zs) (hU:Upd w W B cs T) (hf:0<n→∀ y,p=some y→y.block≠B):tar.Came W p n cap zs:=by
 refine ⟨⟨h.row.1,?_⟩,h.nil,h.room,h.bytes,h.wf⟩;rcases h.row.2 with h0 | ⟨b,off,rfl,hc⟩
 ·exact .inl h0
 ·by_cases h0:n=0
  ·exact .inl h0
  ·have hne:b≠B:=hf (by omega) ⟨b,off,none⟩ rfl;exact .inr ⟨b,off,rfl,fun i hi=>⟨(hU.cell ⟨b,off+i*2,none⟩ hne rfl).trans (hc i hi).1,(hU.cell ⟨b,off+i*2+1,none⟩ hne rfl).trans (hc i hi).2⟩⟩
theorem no_u32 {t:Tm} {pt:Option Addr} {lt ct:Nat} {a:Option Addr} {cap:Nat} {c:List Int} {ao:Option Addr} {no ko:Nat} {o:List Pr} {l:List Ev} {bk:List Cm}:∀ (j:Nat) (z:Int),(#[.slice pt lt ct,zI t.ff,zI t.fb,zI t.db,zI t.al,.slice a 600 cap,.slice ao no ko]:Array Value)[j]?≠some (Value.int .u32 z):=fun j z=>by
 match j with
 | 0=>simp
 | 1=>simp
 | 2=>simp
 | 3=>simp
 | 4=>simp
 | 5=>simp
 | 6=>simp
 | j+7=>simp
theorem St.words {t:Tm} {pt:Option Addr} {lt ct:Nat} {a:Option Addr} {cap:Nat} {c:List Int} {ao:Option Addr} {no ko:Nat} {o:List Pr} {l:List Ev} {bk:List Cm} {W W':World} {B:Nat} (h:St W B t pt lt ct a cap c ao no ko o l bk) {a2:Option Addr} {cap2:Nat} {c2:List Int} {l2:List Ev} {bk2:List Cm} (hd:Dk W a2 600 cap2 c2) (hs:Shop t c2 600 l2 bk2) (hU:Upd W W' B #[.slice pt lt ct,zI t.ff,zI t.fb,zI t.db,zI t.al,.slice a2 600 cap2,.slice ao no ko] 41):St W' B t pt lt ct a2 cap2 c2 ao no ko o l2 bk2:=
 ⟨hU.blk,⟨⟨came_updD h.is.tc.ts hU h.farT,h.is.tc.wf⟩,dk_upd hd hU (dk_far hd h.box (no_u32 (t:=t) (pt:=pt) (lt:=lt) (ct:=ct) (a:=a) (cap:=cap) (c:=c) (ao:=ao) (no:=no) (ko:=ko) (o:=o) (l:=l) (bk:=bk))),came_upd h.is.oc hU h.farO,hs⟩,h.farT,h.farO⟩
theorem St.ora {t:Tm} {pt:Option Addr} {lt ct:Nat} {a:Option Addr} {cap:Nat} {c:List Int} {ao:Option Addr} {no ko:Nat} {o:List Pr} {l:List Ev} {bk:List Cm} {W W':World} {B:Nat} (h:St W B t pt lt ct a cap c ao no ko o l bk) {a2:Option Addr} {n2 k2:Nat} {o2:List Pr} (ho:ora.Came W a2 n2 k2 o2) (hf:0<n2→∀ y,a2=some y→y.block≠B) (hU:Upd W W' B #[.slice pt lt ct,zI t.ff,zI t.fb,zI t.db,zI t.al,.slice a 600 cap,.slice a2 n2 k2] 41):St W' B t pt lt ct a cap c a2 n2 k2 o2 l bk:=
 ⟨hU.blk,⟨⟨came_updD h.is.tc.ts hU h.farT,h.is.tc.wf⟩,dk_upd h.is.dk hU (dk_far h.is.dk h.box (no_u32 (t:=t) (pt:=pt) (lt:=lt) (ct:=ct) (a:=a) (cap:=cap) (c:=c) (ao:=ao) (no:=no) (ko:=ko) (o:=o) (l:=l) (bk:=bk))),came_upd ho hU hf,h.is.shop⟩,h.farT,hf⟩
def OpenPost (w:World) (e:Ending) (w':World):Prop:=∃ t pt lt ct a cap c ao no ko o l bk,e = .returned (.tuple #[.agg #[.slice pt lt ct,zI t.ff,zI t.fb,zI t.db,zI t.al,.slice a 600 cap,.slice ao no ko],.bool true])∧Opn w' t pt lt ct a cap c ao no ko o l bk∧Three bk∧3≤l.length∧l.length≤15∧o.length≤12∧(0<lt→∀ y,pt=some y→w.heap.size≤y.block)∧(0<no→∀ y,ao=some y→w.heap.size≤y.block)∧Below w.heap.size w w'
open book (Tells soldOf Differ)
open acc (OweIs)
theorem cha_owe {t:Tm} {c:List Int} {me ow bp:Int} {ls:List Wr} {bk:List Cm} (hl:LoadIs t c bk 0) (h:ChaIs t c me ow bp ls 0) :
  ∃ k b,FirstAt bk me k∧OweIs (bk.getD k cm0).a ⟨ow,bp⟩ b 0∧EMay (chaE me ow bp)∧StepIs t bk (chaE me ow bp) (bk.set k ⟨b,(bk.getD k cm0).so⟩) 0∧KeepIs c (chaE me ow bp) ls 0:=by
 obtain ⟨bk',g,hl',h⟩:=h;obtain ⟨rfl,rfl⟩:=hl'.one hl;rcases h with ⟨p,_⟩ | ⟨_,_,_,q⟩ | ⟨_,k,b,x,hf,ho,⟨p,_,q⟩ | ⟨rfl,hke⟩⟩
 ·exact absurd rfl p
 ·cases q
 ·exact absurd q.symm p
 ·have hm:(0≤me∧me≤49)∧((1≤ow∧ow≤1000000000)∧0≤bp∧bp≤10000):=by
   rcases ho with ⟨_,_,q⟩ | ⟨_,_,_,q⟩ | ⟨_,_,_,_,q⟩ | ⟨ha,hq,_,_,_⟩
   ·cases q
   ·cases q
   ·cases q
   ·exact ⟨by rw [← hf.2.1];exact ha.2.1,hq⟩
  have hev:EMay (chaE me ow bp):=⟨hm.1,.inr (.inl ⟨rfl,rfl,rfl,rfl,rfl,rfl,rfl,rfl,rfl,rfl,hm.2⟩)⟩
  exact ⟨k,b,hf,ho,hev,.inr (.inr (.inr (.inr ⟨hev,by show (5:Int)≠1;omega,k,_,hf,.inl ⟨rfl,b,ho,fun _=>rfl⟩,fun _=>rfl⟩))),hke⟩
def Parts (bk bk':List Cm):Prop:=∃ k,k<bk.length∧(∀ i,i<k→bk.getD i cm0=bk'.getD i cm0)∧Differ (bk.getD k cm0).a (bk'.getD k cm0).a
theorem parts_set {bk:List Cm} {k:Nat} {x:Cm} (hk:k<bk.length) (h:Differ (bk.getD k cm0).a x.a):Parts bk (bk.set k x):=by
 refine ⟨k,hk,fun i hi=>?_,?_⟩
 ·rw [getD_setC _ _ _ _ hk,if_neg (by omega)]
 ·rw [getD_setC _ _ _ _ hk,if_pos rfl];exact h
theorem tells_differ {t:Tm} {c:Cm} {v:Ev} {b:Ac} {l:Bi} (h:Tells t c v b l 0):Differ c.a b:=by
 obtain ⟨h1,_,h3,_⟩:=tells_same h;exact ⟨h1.symm,.inl (by omega)⟩
theorem owe_differ {a b:Ac} {q:tar.Du} (h:OweIs a q b 0):Differ a b:=by
 rcases h with ⟨_,_,h⟩ | ⟨_,_,_,h⟩ | ⟨_,_,_,_,h⟩ | ⟨_,_,_,rfl,_⟩
 ·cases h
 ·cases h
 ·cases h
 ·exact ⟨rfl,.inr ⟨⟨rfl,rfl,rfl,rfl,rfl,rfl⟩,by simp⟩⟩
theorem serve_diff {t:Tm} {c:List Int} {n:Nat} {l:List Ev} {bk:List Cm} {o:List Pr} {x:Od} {ls:List Wr} {o':List Pr} {r:Rc} (h:Shop t c n l bk) (h3:Three bk) (hn:l.length<120) (hf:14*l.length+13<n) (hs:ServedIs t c o x ls o' r 0):∃ v bk',Stepped t c n l bk v bk' ls∧Three bk'∧Parts bk bk':=by
 rcases hs with ⟨_,hc,_,_⟩ | ⟨_,hc⟩ | ⟨_,hc⟩ | ⟨_,hc⟩
 ·obtain ⟨k,b,hfi,ho,hv,hst,hke⟩:=cha_owe h.load hc;exact ⟨_,_,stepped h hn hf hv hst hke,three_set h3 hst,parts_set hfi.1 (owe_differ ho)⟩
 ·obtain ⟨k,b,l2,tg,hfi,hte,_,hv,hst,hke,_⟩:=tok_step (.inr (.inl rfl)) h.load hc;exact ⟨_,_,stepped h hn hf hv hst hke,three_set h3 hst,parts_set hfi.1 (tells_differ hte)⟩
 ·obtain ⟨k,b,l2,tg,hfi,hte,_,hv,hst,hke,_⟩:=tok_step (.inr (.inr ⟨rfl,rfl⟩)) h.load hc;exact ⟨_,_,stepped h hn hf hv hst hke,three_set h3 hst,parts_set hfi.1 (tells_differ hte)⟩
 ·obtain ⟨k,b,l2,tg,hfi,hte,_,hv,hst,hke,_⟩:=tok_step (.inl rfl) h.load hc;exact ⟨_,_,stepped h hn hf hv hst hke,three_set h3 hst,parts_set hfi.1 (tells_differ hte)⟩
open book (Sees ECame)
open acc (TCame ACame)
def CusP (w:World) (bk:List Cm) (me:Int) (e:Ending) (w':World):Prop:=Below w.heap.size w w'∧((e = .returned (.tuple #[.agg #[zI 0,zI 0,zI 0,zI 0,zI 0,zI 0,zS,zS],zI 18])∧NoneAt bk me) ∨
 ∃ k dp dn dc sp sn sc,e = .returned (.tuple #[.agg #[zI (bk.getD k cm0).a.me,zI (bk.getD k cm0).a.rv,zI (bk.getD k cm0).a.nx,zI (bk.getD k cm0).a.mo,zI (bk.getD k cm0).a.bo,zI (bk.getD k cm0).a.fr,.slice dp dn dc,.slice sp sn sc],zI 0])∧FirstAt bk me k∧k<bk.length∧tar.Came w dp dn dc (bk.getD k cm0).a.ds∧book.RowS w sp sn (bk.getD k cm0).so)
theorem find_first {xs:List book.Cu} {bk:List Cm} {me x f:Int} (hl:xs.length=bk.length) (hn:∀ i,i<xs.length→book.Nums (xs.getD i book.cu0) (bk.getD i cm0).a) (h:book.FindIs xs me x f):(f=18∧NoneAt bk me)∨(∃ k:Nat,x=(k:Int)∧f=0∧FirstAt bk me k∧k<xs.length):=by
 rcases h with ⟨k,h1,h2,h3,h4,h5⟩ | ⟨h1,h2,h3⟩
 ·refine .inr ⟨k,h4,h5,⟨by rw [← hl];exact h1,by rw [← (hn k h1).1];exact h2,fun j hj=>by rw [← (hn j (by omega)).1];exact h3 j hj⟩,h1⟩
 ·exact .inl ⟨h3,fun j hj=>by rw [← (hn j (by rw [hl];exact hj)).1];exact h1 j (by rw [hl];exact hj)⟩
theorem pcust (p2:Option Addr) (m2 c2:Nat) (xs:List book.Cu) (bk:List Cm) (a:Option Addr) (n cap:Nat) (q me:Int) (w:World) (h:Sees w p2 m2 xs bk) (hm:m2≤120):Calls Tryz.prog 24 #[.agg #[.slice p2 m2 c2,.slice a n cap,zI q],zI me] w fun e w'=>CusP w bk me e w':=by
 have HSE:Hid (Sees w p2 m2 xs bk):=h;clear h;obtain ⟨W0,HWW,H0s,H0r,H0B,hs0⟩:=sh2 w #[.slice p2 m2 c2,.slice a n cap,zI q] 87 #[zI 0,zI 0,zI 0,zI 0,zI 0,zI 0,zS,zS] 54;go_enter Tryz.func24,Tryz.ntmps24;go_upto_region 1 with fail
 rw [HWW.o];clear HWW;have HFI:Hid (Calls Tryz.prog 51 #[.agg #[.slice p2 m2 c2],zI me] W0 fun e w'=>book.FindPost W0 xs me e w'):=book.pfind W0 p2 m2 c2 xs me (HSE.o.below H0B.o).row (by omega);have qs0:W0.cell? ⟨w.heap.size,0,none⟩=some (.slice p2 m2 c2):=H0s.o.cell 0
 go_wp2_with (first
  | (refine zqw rfl rfl rfl H0s zqu87 ?_)
  | (refine zqw rfl rfl rfl H0r zqu54 ?_)
  | fail)
 refine HFI.o.mono ?_;rintro e w1 ⟨x,f,rfl,hfi,hb1⟩;have H1s:=shN H0s hb1;have H1r:=shN H0r hb1;have H1B:=shB H0B hb1;have hsw1:W0.heap.size≤w1.heap.size:=hb1.size;clear hb1 H0s H0r H0B;clear qs0;have hff:=find_first HSE.o.len HSE.o.num hfi;clear hfi HFI;rcases hff with ⟨rfl,hnone⟩ | ⟨k,rfl,rfl,hfirst,hkx⟩
 ·have HNO:Hid (NoneAt bk me):=hnone;clear hnone
  go_wp2_with (first
   | (refine zql rfl rfl rfl rfl zqu54 (by simp [Value.oneCell']) H1r rfl ?_)
   | (refine zqw rfl rfl rfl H1s zqu87 ?_)
   | (refine zqw rfl rfl rfl H1r zqu54 ?_)
   | fail)
  intro W2 hU;have H2s:=shK hU H1s (by omega);have H2r:Hid (Blk W2 (w.heap.size+1) #[zI 0,zI 0,zI 0,zI 0,zI 0,zI 0,zS,zS] 54):=hU.blk;have H2B:=shV hU H1B (by omega);have hsW2:W2.heap.size=w1.heap.size:=hU.size;clear hU H1s H1r H1B;have Rr0:Hid (W2.cell? ⟨w.heap.size+1,0,none⟩=some (zI 0)):=H2r.o.cell 0;have Rr1:Hid (W2.cell? ⟨w.heap.size+1,1,none⟩=some (zI 0)):=H2r.o.cell 1;have Rr2:Hid (W2.cell? ⟨w.heap.size+1,2,none⟩=some (zI 0)):=H2r.o.cell 2;have Rr3:Hid (W2.cell? ⟨w.heap.size+1,3,none⟩=some (zI 0)):=H2r.o.cell 3;have Rr4:Hid (W2.cell? ⟨w.heap.size+1,4,none⟩=some (zI 0)):=H2r.o.cell 4;have Rr5:Hid (W2.cell? ⟨w.heap.size+1,5,none⟩=some (zI 0)):=H2r.o.cell 5;have Rr6:Hid (W2.cell? ⟨w.heap.size+1,6,none⟩=some (zS)):=H2r.o.cell 6;have Rr7:Hid (W2.cell? ⟨w.heap.size+1,7,none⟩=some (zS)):=H2r.o.cell 7;go_wp2_with fail;exact bodyPost_ret (v:= .tuple #[.agg #[zI 0,zI 0,zI 0,zI 0,zI 0,zI 0,zS,zS],zI 18]) (by simp [results,Tryz.results24,Rr0.o,Rr1.o,Rr2.o,Rr3.o,Rr4.o,Rr5.o,Rr6.o,Rr7.o,go_sem]) rfl ⟨H2B.o,.inl ⟨rfl,HNO.o⟩⟩
 ·have HFT:Hid (FirstAt bk me k):=hfirst;have HSW:Hid (Sees w1 p2 m2 xs bk):=HSE.o.below H1B.o;have HKB:Hid (k<bk.length):=by rw [← HSE.o.len];exact hkx
  have HDS:Hid (tar.Came w (xs.getD k book.cu0).dp (xs.getD k book.cu0).dn (xs.getD k book.cu0).dc (bk.getD k cm0).a.ds∧book.RowS w (xs.getD k book.cu0).sp (xs.getD k book.cu0).sn (bk.getD k cm0).so):=⟨HSE.o.ds k hkx,HSE.o.so k hkx⟩
  obtain ⟨cb,co,hpp,hcl,hcc⟩:∃ b off,p2=some ⟨b,off,none⟩∧b<w1.heap.size∧∀ i j,i<m2→j<8→w1.cell? ⟨b,off+i*8+j,none⟩=(xs.getD i book.cu0).cs[j]?:=by
   rcases HSW.o.row.2 with h | h
   ·have:=HSW.o.row.1;omega
   ·exact h
  subst hpp;have hkm:k<m2:=by have:=HSW.o.row.1;omega
  have hnm:=HSW.o.num k hkx;have hds:=HSW.o.ds k hkx;have y0:w1.cell? ⟨cb,co+k*8,none⟩=some (zI (bk.getD k cm0).a.me):=(hcc k 0 hkm (by decide)).trans (by rw [← hnm.1];rfl);have y1:w1.cell? ⟨cb,co+k*8+1,none⟩=some (zI (bk.getD k cm0).a.rv):=(hcc k 1 hkm (by decide)).trans (by rw [← hnm.2.1];rfl);have y2:w1.cell? ⟨cb,co+k*8+2,none⟩=some (zI (bk.getD k cm0).a.nx):=(hcc k 2 hkm (by decide)).trans (by rw [← hnm.2.2.1];rfl);have y3:w1.cell? ⟨cb,co+k*8+3,none⟩=some (zI (bk.getD k cm0).a.mo):=(hcc k 3 hkm (by decide)).trans (by rw [← hnm.2.2.2.1];rfl);have y4:w1.cell? ⟨cb,co+k*8+4,none⟩=some (zI (bk.getD k cm0).a.bo):=(hcc k 4 hkm (by decide)).trans (by rw [← hnm.2.2.2.2.1];rfl);have y5:w1.cell? ⟨cb,co+k*8+5,none⟩=some (zI (bk.getD k cm0).a.fr):=(hcc k 5 hkm (by decide)).trans (by rw [← hnm.2.2.2.2.2];rfl);have y6:w1.cell? ⟨cb,co+k*8+6,none⟩=some (.slice (xs.getD k book.cu0).dp (xs.getD k book.cu0).dn (xs.getD k book.cu0).dc):=hcc k 6 hkm (by decide);have y7:w1.cell? ⟨cb,co+k*8+7,none⟩=some (.slice (xs.getD k book.cu0).sp (xs.getD k book.cu0).sn (xs.getD k book.cu0).sc):=hcc k 7 hkm (by decide);clear hcc hnm;generalize (xs.getD k book.cu0).dp=dp at *;generalize (xs.getD k book.cu0).dn=dn at *;generalize (xs.getD k book.cu0).dc=dc at *;generalize hy:(bk.getD k cm0).a=y at *;have HY:Hid ((bk.getD k cm0).a=y):=hy;clear hy;generalize (xs.getD k book.cu0).sp=sp at *;generalize (xs.getD k book.cu0).sn=sn at *;generalize (xs.getD k book.cu0).sc=sc at *;clear hds hfirst hkx HSW HSE;have qs0:w1.cell? ⟨w.heap.size,0,none⟩=some (.slice (some ⟨cb,co,none⟩) m2 c2):=H1s.o.cell 0
  go_wp2_with (first
   | (refine zql rfl rfl rfl rfl zqu54 (by simp [Value.oneCell']) H1r rfl ?_)
   | (refine zqw rfl rfl rfl H1s zqu87 ?_)
   | (refine zqw rfl rfl rfl H1r zqu54 ?_)
   | fail)
  intro W2 hU;have H2s:=shK hU H1s (by omega);have H2r:Hid (Blk W2 (w.heap.size+1) #[zI y.me,zI y.rv,zI y.nx,zI y.mo,zI y.bo,zI y.fr,.slice dp dn dc,.slice sp sn sc] 54):=hU.blk;have H2B:=shV hU H1B (by omega);have hsW2:W2.heap.size=w1.heap.size:=hU.size;clear hU H1s H1r H1B;clear qs0;obtain ⟨Rr0,Rr1,Rr2,Rr3,Rr4,Rr5,Rr6,Rr7⟩:=shc8 H2r;go_wp2_with fail;exact bodyPost_ret (v:= .tuple #[.agg #[zI y.me,zI y.rv,zI y.nx,zI y.mo,zI y.bo,zI y.fr,.slice dp dn dc,.slice sp sn sc],zI 0]) (by simp [results,Tryz.results24,Rr0.o,Rr1.o,Rr2.o,Rr3.o,Rr4.o,Rr5.o,Rr6.o,Rr7.o,go_sem]) rfl ⟨H2B.o,.inr ⟨k,dp,dn,dc,sp,sn,sc,by rw [HY.o],HFT.o,HKB.o,by rw [HY.o];exact HDS.o.1,HDS.o.2⟩⟩
theorem puntag (kd me mo dr:Int) (F:Value) (l:Bi) (b:Ac) (p:Option Addr) (ln cp:Nat) (cl am:Int) (w:World) (h:(kd=4∧cl=2∧am=b.rv)∨(kd≠4∧cl=0∧am=l.un)):Calls Tryz.prog 124 #[.agg #[zI kd,zI me,zI mo,zI dr,F],.agg #[zI l.id,zI l.te,zI l.de,zI l.fe,zI l.pr,zI l.ch,zI l.un],.agg #[zI b.me,zI b.rv,zI b.nx,zI b.mo,zI b.bo,zI b.fr,.slice p ln cp]] w fun e w'=>e = .returned (.agg #[zI cl,zI l.id,zI am,zI 0])∧Below w.heap.size w w':=by
 obtain ⟨W0,HWW,H0d,H0l,H0b,H0r,H0B,hs0⟩:=sh4 w #[zI kd,zI me,zI mo,zI dr,F] 166 #[zI l.id,zI l.te,zI l.de,zI l.fe,zI l.pr,zI l.ch,zI l.un] 68 #[zI b.me,zI b.rv,zI b.nx,zI b.mo,zI b.bo,zI b.fr,.slice p ln cp] 51 #[zI 0,zI 0,zI 0,zI 0] 96;go_enter Tryz.func124,Tryz.ntmps124;go_upto_region 1 with fail
 rw [HWW.o];clear HWW;rcases h with ⟨h1,rfl,rfl⟩ | ⟨h1,rfl,rfl⟩
 ·have d1:(kd == 4)=true:=by simpa using h1
  clear h1;have qd0:W0.cell? ⟨w.heap.size,0,none⟩=some (zI kd):=H0d.o.cell 0;have ql0:W0.cell? ⟨w.heap.size+1,0,none⟩=some (zI l.id):=H0l.o.cell 0;have qb1:W0.cell? ⟨w.heap.size+1+1,1,none⟩=some (zI b.rv):=H0b.o.cell 1
  go_wp2_with (first
   | (refine zql rfl rfl rfl rfl zqu96 (by simp [Value.oneCell']) H0r rfl ?_)
   | (refine zqw rfl rfl rfl H0d zqu166 ?_)
   | (refine zqw rfl rfl rfl H0l zqu68 ?_)
   | (refine zqw rfl rfl rfl H0b zqu51 ?_)
   | (refine zqw rfl rfl rfl H0r zqu96 ?_)
   | fail)
  intro W2 hU;have H1d:=shK hU H0d (by omega);have H1l:=shK hU H0l (by omega);have H1b:=shK hU H0b (by omega);have H1r:Hid (Blk W2 (w.heap.size+1+1+1) #[zI 2,zI l.id,zI b.rv,zI 0] 96):=hU.blk;have H1B:=shV hU H0B (by omega);have hsW2:W2.heap.size=W0.heap.size:=hU.size;clear hU H0d H0l H0b H0r H0B;clear qd0 ql0 qb1;have R0:Hid (W2.cell? ⟨w.heap.size+1+1+1,0,none⟩=some (zI 2)):=H1r.o.cell 0;have R1:Hid (W2.cell? ⟨w.heap.size+1+1+1,1,none⟩=some (zI l.id)):=H1r.o.cell 1;have R2:Hid (W2.cell? ⟨w.heap.size+1+1+1,2,none⟩=some (zI b.rv)):=H1r.o.cell 2;have R3:Hid (W2.cell? ⟨w.heap.size+1+1+1,3,none⟩=some (zI 0)):=H1r.o.cell 3;go_wp2_with fail;exact bodyPost_ret (v:= .agg #[zI 2,zI l.id,zI b.rv,zI 0]) (by simp [results,Tryz.results124,R0.o,R1.o,R2.o,R3.o,go_sem]) rfl ⟨rfl,H1B.o⟩
 ·have d1:(kd == 4)=false:=by simpa using h1
  clear h1;have qd0:W0.cell? ⟨w.heap.size,0,none⟩=some (zI kd):=H0d.o.cell 0;have ql0:W0.cell? ⟨w.heap.size+1,0,none⟩=some (zI l.id):=H0l.o.cell 0;have ql6:W0.cell? ⟨w.heap.size+1,6,none⟩=some (zI l.un):=H0l.o.cell 6
  go_wp2_with (first
   | (refine zql rfl rfl rfl rfl zqu96 (by simp [Value.oneCell']) H0r rfl ?_)
   | (refine zqw rfl rfl rfl H0d zqu166 ?_)
   | (refine zqw rfl rfl rfl H0l zqu68 ?_)
   | (refine zqw rfl rfl rfl H0b zqu51 ?_)
   | (refine zqw rfl rfl rfl H0r zqu96 ?_)
   | fail)
  intro W2 hU;have H1d:=shK hU H0d (by omega);have H1l:=shK hU H0l (by omega);have H1b:=shK hU H0b (by omega);have H1r:Hid (Blk W2 (w.heap.size+1+1+1) #[zI 0,zI l.id,zI l.un,zI 0] 96):=hU.blk;have H1B:=shV hU H0B (by omega);have hsW2:W2.heap.size=W0.heap.size:=hU.size;clear hU H0d H0l H0b H0r H0B;clear qd0 ql0 ql6;obtain ⟨R0,R1,R2,R3⟩:=shc4 H1r;go_wp2_with fail;exact bodyPost_ret (v:= .agg #[zI 0,zI l.id,zI l.un,zI 0]) (by simp [results,Tryz.results124,R0.o,R1.o,R2.o,R3.o,go_sem]) rfl ⟨rfl,H1B.o⟩
end vnd
namespace token
open words
open Go.RowKit
theorem str_list (ns:List Int):(strOf ns).data.toList=ns.map byt:=by
 have h:∀ (ns:List Int) (r:ByteArray),(ns.foldl (fun r n=>r.push (UInt8.ofNat n.toNat)) r).data.toList=r.data.toList++ns.map byt:=by
  intro ns
  induction ns with
  | nil=>intro r;simp
  | cons x l ih=>intro r;rw [List.foldl_cons,ih];simp [ByteArray.push,byt]
 have:=h ns ByteArray.empty;simpa [strOf] using this
theorem str_size (ns:List Int):(strOf ns).size=ns.length:=by
 rw [← check.len_eq,str_list];simp
theorem rep_list (n:Nat):Lib.repeatL [48] n=List.replicate n 48:=by
 induction n with
 | zero=>rfl
 | succ n ih=>rw [Lib.repeatL,ih];rfl
theorem bytes_ext {a b:ByteArray} (h:a.data.toList=b.data.toList):a=b:=by
 cases a;cases b;congr 1;exact Array.toList_inj.1 h
theorem pad_fmt (V n:Nat) (h:n+(decL V).length=20):(⟨(Lib.repeatL [48] n).toArray⟩:ByteArray)++strOf (decL V)=fmtB V:=by
 apply bytes_ext;rw [fmtB_list,show ((⟨(Lib.repeatL [48] n).toArray⟩:ByteArray)++strOf (decL V)).data.toList=Lib.repeatL [48] n++(strOf (decL V)).data.toList by simp,str_list,rep_list];unfold fmtL;rw [show 20 - (decL V).length=n by omega]
theorem show_wn (a b c V:Nat) (w:World) (h:WN a b c V) :
  Calls Tryz.prog 53 #[.agg #[.int .u32 (a:Int),.int .u32 (b:Int),.int .u32 (c:Int)]] w fun e w'=>e = .returned (.string (strOf (decL V)))∧Below w.heap.size w w':=by
 have hk:=wn_ok h;have:=show_any ⟨a,b,c⟩ w hk.1
 rwa [hk.2,Int.toNat_natCast] at this
theorem format_ok (k:Tok) (w:World) (ht:TTab w) (hk:k.ok) :
  Calls Tryz.prog 27 #[k.v] w fun e w'=>e = .returned (.tuple #[.string (fmtB (97*k.num)),zI 0])∧Below w.heap.size w w':=by
 have HF:Hid (∀ W,TTab W→Calls Tryz.prog 52 #[.agg #[zI (k.c:Int),zI (k.i:Int),zI (k.a:Int),zI (k.t:Int)]] W fun e w'=>WordsPost W k e w'):=fun W hW=>words_ok k W hW hk;have hnb:=num_bd hk;have hln:=dec_len20 (V:=k.num*97) (by omega);have hsz:=str_size (decL (k.num*97));have HSh:Hid (∀ (a b c:Nat) W,WN a b c (k.num*97)→Calls Tryz.prog 53 #[.agg #[.int .u32 (a:Int),.int .u32 (b:Int),.int .u32 (c:Int)]] W fun e w'=>e = .returned (.string (strOf (decL (k.num*97))))∧Below W.heap.size W w'):=fun a b c W hW=>show_wn a b c _ W hW;obtain ⟨n,hn⟩:∃ n:Nat,n+(decL (k.num*97)).length=20:=⟨20 - (decL (k.num*97)).length,by omega⟩
 have HRp:Hid (∀ W,Calls Tryz.prog 54 #[.string ⟨#[48]⟩,zI (n:Int)] W fun e w'=>e = .returned (.string ⟨(Lib.repeatL [48] n).toArray⟩)∧Below W.heap.size W w'):=fun W=>Tryz.strings_Repeat ⟨#[48]⟩ n W (by omega) (by show 1*n≤_;omega)
 have HX:Hid ((⟨(Lib.repeatL [48] n).toArray⟩:ByteArray)++strOf (decL (k.num*97))=fmtB (97*k.num)):=by
  show _=_;rw [pad_fmt _ _ hn,Nat.mul_comm]
 have hzz:(⟨(Lib.repeatL [48] n).toArray⟩:ByteArray).size=n:=by
  show (Lib.repeatL [48] n).toArray.size=n;rw [rep_list];simp
 have HT:Hid (TTab (w.alloc (.cells #[zI (k.c:Int),zI (k.i:Int),zI (k.a:Int),zI (k.t:Int)] 96))):=ht.below (bel_box _ _);have HB:Hid (Below w.heap.size w (w.alloc (.cells #[zI (k.c:Int),zI (k.i:Int),zI (k.a:Int),zI (k.t:Int)] 96))):=bel_box _ _;rw [← hsz] at hn hln;clear ht hk hnb hsz;generalize strOf (decL (k.num*97))=D at *;generalize (⟨(Lib.repeatL [48] n).toArray⟩:ByteArray)=Z at *;have hds:(20:Int) - (D.size:Int)=(n:Int):=by omega
 unfold Tok.v;go_enter Tryz.func27,Tryz.ntmps27;go_wp2_with fail;refine (HF.o _ HT.o).mono ?_;rintro e w1 ⟨a,b,c,rfl,hwn,hb1⟩;have hN:=Blk.new w1 #[.int .u32 (a:Int),.int .u32 (b:Int),.int .u32 (c:Int)] 131;have HB1:Hid (Below w.heap.size w (w1.alloc (.cells #[.int .u32 (a:Int),.int .u32 (b:Int),.int .u32 (c:Int)] 131))):=(bel_step HB.o hb1).alloc (bel_step HB.o hb1).size _;have HW:Hid (WN a b c (k.num*97)):=hwn;have c0:=hN.cell 0;have c1:=hN.cell 1;have c2:=hN.cell 2;clear hb1 HF HB HT hwn hN;go_wp2_with fail;refine (HSh.o _ _ _ _ HW.o).mono ?_;rintro e w2 ⟨rfl,hb2⟩;have HB2:=shB HB1 hb2;clear hb2 HSh HB1 HW c0 c1 c2;go_wp2_with fail;refine (HRp.o _).mono ?_;rintro e w3 ⟨rfl,hb3⟩;have HB3:=shB HB2 hb3;clear hb3 HRp HB2;go_wp2_with fail;refine bodyPost_ret (v:= .tuple #[.string (Z++D),zI 0]) (by simp [results,Tryz.results27,go_sem]) rfl ⟨by rw [HX.o],HB3.o⟩
end token
namespace vnd
open Go.ChangeShapes Go.WideShapes Go.ChangeAt Go.RowKit Go.Deep
def Od.v (x:Od):Value:= .agg #[zI x.k,zI x.m,zI x.a,zI x.b,zI x.d]
theorem od_cells {H:Type} {enc:TypeId × Value→H} {W:World} {b1:Nat} {spare:Nat→Bool} {held:Bool} {fuel:Nat} {cs:List Value} {x:DataW H × List MemPlace}
  (hsz:cs.length=5) (hf:DataW.trod enc Tryz.prog W b1 spare held fuel 75 cs=some x) :
  ∃ x:Od,cs=x.cs.toList∧wf5 x:=by
 have hu:=Tryz.underlying75;have ci:Tryz.prog.cellsOf 3=1:=by kernel_rfl
 obtain ⟨c0,c1,c2,c3,c4,rfl⟩:∃ c0 c1 c2 c3 c4,cs=[c0,c1,c2,c3,c4]:=by
  match cs,hsz with
  | [c0,c1,c2,c3,c4],_=>exact ⟨c0,c1,c2,c3,c4,rfl⟩
 obtain ⟨xs,n,_,_,_,hlen,hg⟩:=DataW.trod_struct hu hf
 match xs,hlen with
 | [y0,y1,y2,y3,y4],_=>
  have g0:=hg 0 _ rfl;have g1:=hg 1 _ rfl;have g2:=hg 2 _ rfl;have g3:=hg 3 _ rfl;have g4:=hg 4 _ rfl;simp [ci] at g0 g1 g2 g3 g4;obtain ⟨x0,e0,-,w0⟩:=DataW.trod_int Tryz.underlying3 g0;obtain ⟨x1,e1,-,w1⟩:=DataW.trod_int Tryz.underlying3 g1;obtain ⟨x2,e2,-,w2⟩:=DataW.trod_int Tryz.underlying3 g2;obtain ⟨x3,e3,-,w3⟩:=DataW.trod_int Tryz.underlying3 g3;obtain ⟨x4,e4,-,w4⟩:=DataW.trod_int Tryz.underlying3 g4;simp at e0 e1 e2 e3 e4;subst e0 e1 e2 e3 e4;exact ⟨⟨x0,x1,x2,x3,x4⟩,rfl,w0,w1,w2,w3,w4⟩
theorem open_od {H:Type} {enc:TypeId × Value→H} {W:World} {r:Reach} {b0 b1:Nat} {spare:Nat→Bool} {held:Bool} {v:Value} {d:DataW H} {ps:List MemPlace}
  (hval:Value.okWide Tryz.prog W r b0 75 v) (h:DataW.Trod enc Tryz.prog W b1 spare held 75 v d ps) :
  ∃ x:Od,v=x.v∧wf5 x:=by
 have hu:=Tryz.underlying75;have hc:Tryz.prog.cellsOf 75=5:=by kernel_rfl
 obtain ⟨cs,rfl,hsz⟩:=okWide_struct hu hval;rw [hc] at hsz;obtain ⟨fuel,hf⟩:=h;obtain ⟨x,hx,hw⟩:=od_cells (cs:=cs.toList) (by simpa using hsz) (by simpa [Value.cells] using hf);refine ⟨x,?_,hw⟩;show Value.agg cs=Value.agg x.cs;rw [show cs=x.cs from Array.toList_inj.1 hx]
theorem rowO_of {w:World} {a:Addr} {m len:Nat} (hl:len≤m)
  (h:∀ i,i<m→∃ y:Od,(∀ j,j<5→w.cell? (a.add (i*5+j))=y.cs.toList[j]?)∧wf5 y) :
  ∃ zs:List Od,RowO w (some a) len zs:=by
 haveI:Inhabited Od:=⟨od0⟩
 obtain ⟨f,hf⟩:=Deep.choose_lt h;have e:∀ i,i<len→((List.range len).map f).getD i od0=f i:=fun i hi=>by simp [List.getD,hi]
 refine ⟨(List.range len).map f,⟨by simp,?_,fun i hi=>by rw [e i hi];exact (hf i (by omega)).2⟩⟩;by_cases h0:len=0
 ·exact .inl h0
 ·obtain ⟨b,off,spot⟩:=a;have e0:w.cell? ((⟨b,off,spot⟩:Addr).add (0*5+0))=some (zI (f 0).k):=(hf 0 (by omega)).1 0 (by omega);have hs:spot=none:=by simpa [Addr.add] using World.cell?_spot e0
  subst hs;refine .inr ⟨b,off,rfl,?_,fun i j hi hj=>?_⟩
  ·rw [Addr.add_lit] at e0;exact World.block_lt_of_cell? w _ e0
  ·have h1:=(hf i (by omega)).1 j hj;rw [Addr.add_lit,← Nat.add_assoc] at h1;rw [e i hi,h1];simp
theorem open_orders {H:Type} {enc:TypeId × Value→H} {W:World} {r:Reach} {b0 b1:Nat} {held:Bool} {v:Value} {d:DataW H} {ps:List MemPlace}
  (hval:Value.okWide Tryz.prog W r b0 36 v) (h:DataW.Trod enc Tryz.prog W b1 (fun _=>true) held 36 v d ps) (hs:∀ n∈d.weights Tryz.prog 36,n≤reachBytes) :
  ∃ (p:Option Addr) (len cap:Nat) (l:List Od),v = .slice p len cap∧RowO W p len l:=by
 have hu:=Tryz.underlying36;have hc:Tryz.prog.cellsOf 75=5:=by kernel_rfl
 obtain ⟨p,len,cap,rfl⟩:=okWide_slice hu hval;obtain ⟨fuel,hf⟩:=h;rcases Deep.open_slice hu hf with ⟨hcs,_⟩ | ⟨a,l,c,m,n,D,Pl,hcs,_,hl,hm,hmm,hy,hall⟩
 ·simp [Value.cells] at hcs;obtain ⟨rfl,rfl,rfl⟩:=hcs;exact ⟨none,0,0,[],rfl,⟨rfl,.inl rfl,fun i hi=>absurd hi (Nat.not_lt_zero _)⟩⟩
 ·simp [Value.cells] at hcs;obtain ⟨rfl,rfl,rfl⟩:=hcs;simp only [if_true] at hmm;subst hmm;rw [hc] at hall
  obtain ⟨zs,r1⟩:=rowO_of (w:=W) (a:=a) (m:=m) hl (fun i hi=>by
   obtain ⟨cs',h1,h2⟩:=hall i hi;obtain ⟨_,hlen,hcell⟩:=World.cells?_some h1;obtain ⟨y,rfl,hw⟩:=od_cells hlen h2
   exact ⟨y,fun j hj=>by have:=hcell j hj;rwa [Deep.add_add] at this,hw⟩)
  exact ⟨some a,len,m,zs,rfl,r1⟩
end vnd
end Go.Proofs.YtnpblpbohcegoaaGreatDoor
