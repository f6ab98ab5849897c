import Derived.Test.YtnpblpbohcegoaaGreatDoorVBTed30
import Derived.Test.YtnpblpbohcegoaaGreatDoorVBTed32
set_option linter.unusedVariables false
set_option linter.unusedSimpArgs false
set_option maxHeartbeats 4000000
set_option maxRecDepth 100000
namespace Go.Proofs.YtnpblpbohcegoaaGreatDoor
namespace vnd
open disk (RepIs AppIs May repD lenAt appW Wds)
open book (Ev ev0 EMay evL evOf EncIs DecIs Cm cm0 So so0 BookIs FirstAt NoneAt StepIs HapIs)
open acc (Ac Tm Bi)
open ora (Pr IssueIs)
open cell (Wr wrt RowU RowW)
open rcp (Rc rc0)
open Go.RowKit
def Od.cs (x:Od):Array Value:=#[zI x.k,zI x.m,zI x.a,zI x.b,zI x.d]
structure RowO (w:World) (p:Option Addr) (n:Nat) (xs:List Od):Prop where
 len:xs.length=n
 row:n=0∨∃ b off,p=some ⟨b,off,none⟩∧b<w.heap.size∧∀ i j,i<n→j<5→w.cell? ⟨b,off+i*5+j,none⟩=(xs.getD i od0).cs[j]?
 wf:∀ i,i<n→wf5 (xs.getD i od0)
theorem RowO.below {w w':World} {p:Option Addr} {n:Nat} {xs:List Od} (h:RowO w p n xs) (hb:Below w.heap.size w w'):RowO w' p n xs:=by
 refine ⟨h.len,?_,h.wf⟩;rcases h.row with h0 | ⟨b,off,rfl,lb,hc⟩
 ·exact .inl h0
 ·exact .inr ⟨b,off,rfl,Nat.lt_of_lt_of_le lb hb.size,fun i j hi hj=>(hb.cell (p:=⟨b,off+i*5+j,none⟩) lb).trans (hc i j hi hj)⟩
theorem RowO.at {w:World} {p:Option Addr} {n:Nat} {xs:List Od} (h:RowO w p n xs) {i:Nat} (hi:i<n):∃ b off,p=some ⟨b,off,none⟩∧b<w.heap.size∧w.cell? ⟨b,off+i*5,none⟩=some (zI (xs.getD i od0).k)∧w.cell? ⟨b,off+i*5+1,none⟩=some (zI (xs.getD i od0).m)∧w.cell? ⟨b,off+i*5+2,none⟩=some (zI (xs.getD i od0).a)∧w.cell? ⟨b,off+i*5+3,none⟩=some (zI (xs.getD i od0).b)∧w.cell? ⟨b,off+i*5+4,none⟩=some (zI (xs.getD i od0).d):=by
 rcases h.row with h0 | ⟨b,off,rfl,lb,hc⟩
 ·omega
 ·exact ⟨b,off,rfl,lb,hc i 0 hi (by decide),hc i 1 hi (by decide),hc i 2 hi (by decide),hc i 3 hi (by decide),hc i 4 hi (by decide)⟩
structure Opn (W:World) (t:Tm) (pt:Option Addr) (lt ct:Nat) (a:Option Addr) (cap:Nat) (c:List Int) (ao:Option Addr) (no ko:Nat) (o:List Pr) (l:List Ev) (bk:List Cm):Prop where
 tc:acc.TCame W t pt lt ct
 dk:Dk W a 600 cap c
 oc:ora.Came W ao no ko o
 shop:Shop t c 600 l bk
theorem Opn.next {t:Tm} {pt:Option Addr} {lt ct:Nat} {a:Option Addr} {cap:Nat} {c:List Int} {ao:Option Addr} {no ko:Nat} {o:List Pr} {l:List Ev} {bk:List Cm} {W W':World} (h:Opn W t pt lt ct a cap c ao no ko o l bk) (hb:Below W.heap.size W W'):Opn W' t pt lt ct a cap c ao no ko o l bk:=⟨h.tc.below hb,h.dk.below hb,h.oc.below hb,h.shop⟩
structure St (W:World) (B:Nat) (t:Tm) (pt:Option Addr) (lt ct:Nat) (a:Option Addr) (cap:Nat) (c:List Int) (ao:Option Addr) (no ko:Nat) (o:List Pr) (l:List Ev) (bk:List Cm):Prop where
 box:Blk W B #[.slice pt lt ct,zI t.ff,zI t.fb,zI t.db,zI t.al,.slice a 600 cap,.slice ao no ko] 41
 is:Opn W t pt lt ct a cap c ao no ko o l bk
 farT:0<lt→∀ y,pt=some y→y.block≠B
 farO:0<no→∀ y,ao=some y→y.block≠B
theorem St.next {t:Tm} {pt:Option Addr} {lt ct:Nat} {a:Option Addr} {cap:Nat} {c:List Int} {ao:Option Addr} {no ko:Nat} {o:List Pr} {l:List Ev} {bk:List Cm} {W W':World} {B:Nat} (h:St W B t pt lt ct a cap c ao no ko o l bk) (hb:Below W.heap.size W W'):St W' B t pt lt ct a cap c ao no ko o l bk:=⟨h.box.next hb,h.is.next hb,h.farT,h.farO⟩
theorem came_updD {w W:World} {p:Option Addr} {n cap:Nat} {zs:List tar.Du} {B:Nat} {cs:Array Value} {T:TypeId} (h:tar.Came w p n cap zs) (hU:Upd w W B cs T) (hf:0<n→∀ y,p=some y→y.block≠B):tar.Came W p n cap zs:=by
 refine ⟨⟨h.row.1,?_⟩,h.nil,h.room,h.bytes,h.wf⟩;rcases h.row.2 with h0 | ⟨b,off,rfl,hc⟩
 ·exact .inl h0
 ·by_cases h0:n=0
  ·exact .inl h0
  ·have hne:b≠B:=hf (by omega) ⟨b,off,none⟩ rfl;exact .inr ⟨b,off,rfl,fun i hi=>⟨(hU.cell ⟨b,off+i*2,none⟩ hne rfl).trans (hc i hi).1,(hU.cell ⟨b,off+i*2+1,none⟩ hne rfl).trans (hc i hi).2⟩⟩
theorem no_u32 {t:Tm} {pt:Option Addr} {lt ct:Nat} {a:Option Addr} {cap:Nat} {c:List Int} {ao:Option Addr} {no ko:Nat} {o:List Pr} {l:List Ev} {bk:List Cm}:∀ (j:Nat) (z:Int),(#[.slice pt lt ct,zI t.ff,zI t.fb,zI t.db,zI t.al,.slice a 600 cap,.slice ao no ko]:Array Value)[j]?≠some (Value.int .u32 z):=fun j z=>by
 match j with
 | 0=>simp
 | 1=>simp
 | 2=>simp
 | 3=>simp
 | 4=>simp
 | 5=>simp
 | 6=>simp
 | j+7=>simp
theorem St.words {t:Tm} {pt:Option Addr} {lt ct:Nat} {a:Option Addr} {cap:Nat} {c:List Int} {ao:Option Addr} {no ko:Nat} {o:List Pr} {l:List Ev} {bk:List Cm} {W W':World} {B:Nat} (h:St W B t pt lt ct a cap c ao no ko o l bk) {a2:Option Addr} {cap2:Nat} {c2:List Int} {l2:List Ev} {bk2:List Cm} (hd:Dk W a2 600 cap2 c2) (hs:Shop t c2 600 l2 bk2) (hU:Upd W W' B #[.slice pt lt ct,zI t.ff,zI t.fb,zI t.db,zI t.al,.slice a2 600 cap2,.slice ao no ko] 41):St W' B t pt lt ct a2 cap2 c2 ao no ko o l2 bk2:=
 ⟨hU.blk,⟨⟨came_updD h.is.tc.ts hU h.farT,h.is.tc.wf⟩,dk_upd hd hU (dk_far hd h.box (no_u32 (t:=t) (pt:=pt) (lt:=lt) (ct:=ct) (a:=a) (cap:=cap) (c:=c) (ao:=ao) (no:=no) (ko:=ko) (o:=o) (l:=l) (bk:=bk))),came_upd h.is.oc hU h.farO,hs⟩,h.farT,h.farO⟩
theorem St.ora {t:Tm} {pt:Option Addr} {lt ct:Nat} {a:Option Addr} {cap:Nat} {c:List Int} {ao:Option Addr} {no ko:Nat} {o:List Pr} {l:List Ev} {bk:List Cm} {W W':World} {B:Nat} (h:St W B t pt lt ct a cap c ao no ko o l bk) {a2:Option Addr} {n2 k2:Nat} {o2:List Pr} (ho:ora.Came W a2 n2 k2 o2) (hf:0<n2→∀ y,a2=some y→y.block≠B) (hU:Upd W W' B #[.slice pt lt ct,zI t.ff,zI t.fb,zI t.db,zI t.al,.slice a 600 cap,.slice a2 n2 k2] 41):St W' B t pt lt ct a cap c a2 n2 k2 o2 l bk:=
 ⟨hU.blk,⟨⟨came_updD h.is.tc.ts hU h.farT,h.is.tc.wf⟩,dk_upd h.is.dk hU (dk_far h.is.dk h.box (no_u32 (t:=t) (pt:=pt) (lt:=lt) (ct:=ct) (a:=a) (cap:=cap) (c:=c) (ao:=ao) (no:=no) (ko:=ko) (o:=o) (l:=l) (bk:=bk))),came_upd ho hU hf,h.is.shop⟩,h.farT,hf⟩
def OpenPost (w:World) (e:Ending) (w':World):Prop:=∃ t pt lt ct a cap c ao no ko o l bk,e = .returned (.tuple #[.agg #[.slice pt lt ct,zI t.ff,zI t.fb,zI t.db,zI t.al,.slice a 600 cap,.slice ao no ko],.bool true])∧Opn w' t pt lt ct a cap c ao no ko o l bk∧Three bk∧3≤l.length∧l.length≤15∧o.length≤12∧(0<lt→∀ y,pt=some y→w.heap.size≤y.block)∧(0<no→∀ y,ao=some y→w.heap.size≤y.block)∧Below w.heap.size w w'
end vnd
namespace token
open words
open Go.RowKit
theorem wn_ok {a b c V:Nat} (h:WN a b c V):W3.ok ⟨a,b,c⟩∧W3.val ⟨a,b,c⟩=V:=by
 have h1:=h.a1;have h2:=h.b1;have h3:=h.c1;have h4:=h.val;refine ⟨⟨⟨by show (0:Int)≤a;omega,by show (a:Int)<_;omega⟩,⟨by show (0:Int)≤b;omega,by show (b:Int)<_;omega⟩,by show (0:Int)≤c;omega,by show (c:Int)<_;omega⟩,?_⟩;unfold bigV at h4;unfold W3.val;simp only;omega
theorem wn_of {X:W3} (h:X.ok) {V:Nat} (hV:X.val=V):∃ a b c:Nat,X=⟨a,b,c⟩∧WN a b c V:=by
 obtain ⟨x,y,z⟩:=X;obtain ⟨⟨h0,h0'⟩,⟨h1,h1'⟩,h2,h2'⟩:=h;simp only at *;obtain ⟨a,rfl⟩:=Int.eq_ofNat_of_zero_le h0;obtain ⟨b,rfl⟩:=Int.eq_ofNat_of_zero_le h1;obtain ⟨c,rfl⟩:=Int.eq_ofNat_of_zero_le h2;refine ⟨a,b,c,rfl,by omega,by omega,by omega,?_⟩;unfold W3.val at hV;unfold bigV;simp only at hV;omega
theorem times_wn (a b c V m:Nat) (w:World) (h:WN a b c V) (hm:m<4294967296) (hv:V*m<79228162514264337593543950336) :
  Calls Tryz.prog 86 #[.agg #[.int .u32 (a:Int),.int .u32 (b:Int),.int .u32 (c:Int)],.int .u32 (m:Int)] w fun e w'=>
   ∃ (a' b' c':Nat) (o:Int),e = .returned (.tuple #[.agg #[.int .u32 (a':Int),.int .u32 (b':Int),.int .u32 (c':Int)],.int .u32 o])∧WN a' b' c' (V*m)∧Below w.heap.size w w':=by
 have hk:=wn_ok h;have ht:=times_any ⟨a,b,c⟩ m w hk.1 (by omega) (by omega)
 obtain ⟨a',b',c',he,hn⟩:=wn_of (X:=timesW ⟨a,b,c⟩ m) (carry3_ok _ _ _) (V:=V*m) (by
  rw [times_mod,hk.2];unfold top
  rw [← Int.natCast_mul,Int.emod_eq_of_lt (by omega) (by omega)])
 refine ht.mono ?_;rintro e w' ⟨rfl,hb⟩;exact ⟨a',b',c',_,by rw [he],hn,hb⟩
theorem words_no (c i a t:Int) (w:World) (ht:TTab w) (h:flawT c i a t≠0) :
  Calls Tryz.prog 52 #[.agg #[zI c,zI i,zI a,zI t]] w fun e w'=>e = .returned (.tuple #[.agg #[.int .u32 0,.int .u32 0,.int .u32 0],zI (flawT c i a t)])∧Below w.heap.size w w':=by
 have HF:Hid (∀ W,TTab W→Calls Tryz.prog 85 #[.agg #[zI c,zI i,zI a,zI t]] W fun e w'=>e = .returned (zI (flawT c i a t))∧Below W.heap.size W w'):=fun W hW=>flaw_any c i a t W hW;have hd:(flawT c i a t != 0)=true:=by simpa using h
 have hb0:Below w.heap.size w ((w.alloc (.cells #[zI c,zI i,zI a,zI t] 96)).alloc (.cells #[.int .u32 0,.int .u32 0,.int .u32 0] 131)):=(bel_box _ _).alloc (by simp) _;have HB:Hid (Below w.heap.size w ((w.alloc (.cells #[zI c,zI i,zI a,zI t] 96)).alloc (.cells #[.int .u32 0,.int .u32 0,.int .u32 0] 131))):=hb0;have HT:Hid (TTab ((w.alloc (.cells #[zI c,zI i,zI a,zI t] 96)).alloc (.cells #[.int .u32 0,.int .u32 0,.int .u32 0] 131))):=ht.below hb0;have HX:Hid (Blk ((w.alloc (.cells #[zI c,zI i,zI a,zI t] 96)).alloc (.cells #[.int .u32 0,.int .u32 0,.int .u32 0] 131)) (w.heap.size+1) #[.int .u32 0,.int .u32 0,.int .u32 0] 131):=Blk.new1 _ _ _ _;clear ht h hb0;generalize flawT c i a t=f at *;go_enter Tryz.func52,Tryz.ntmps52;go_wp2_with fail;refine (HF.o _ HT.o).mono ?_;rintro e w1 ⟨rfl,hb1⟩;have hX:=HX.o.next hb1;have hB1:=bel_step HB.o hb1;have HB1:Hid (Below w.heap.size w (((w1.setCell ⟨w.heap.size+1,0,none⟩ (.int .u32 0)).setCell ⟨w.heap.size+1,1,none⟩ (.int .u32 0)).setCell ⟨w.heap.size+1,2,none⟩ (.int .u32 0))):=bel_set (bel_set (bel_set hB1 _ _ _ (by omega)) _ _ _ (by omega)) _ _ _ (by omega);have RR:Blk (((w1.setCell ⟨w.heap.size+1,0,none⟩ (.int .u32 0)).setCell ⟨w.heap.size+1,1,none⟩ (.int .u32 0)).setCell ⟨w.heap.size+1,2,none⟩ (.int .u32 0)) (w.heap.size+1) #[.int .u32 0,.int .u32 0,.int .u32 0] 131:=((hX.set 0 _).set 1 _).set 2 _;have R0:Hid (_=_):=RR.cell 0;have R1:Hid (_=_):=RR.cell 1;have R2:Hid (_=_):=RR.cell 2;have x0:=hX.cell 0;have x1:=hX.cell 1;have x2:=hX.cell 2;have f0:=hX.free 0;have f1:=hX.free 1;have f2:=hX.free 2;clear hb1 HF HB HT HX hX RR hB1;go_wp2_with fail;refine bodyPost_ret (v:= .tuple #[.agg #[.int .u32 0,.int .u32 0,.int .u32 0],zI f]) (by simp [results,Tryz.results52,R0.o,R1.o,R2.o,go_sem]) rfl ⟨rfl,HB1.o⟩
def WordsPost (w:World) (k:Tok) (e:Ending) (w':World):Prop:=∃ a b c:Nat,e = .returned (.tuple #[.agg #[.int .u32 (a:Int),.int .u32 (b:Int),.int .u32 (c:Int)],zI 0])∧WN a b c (k.num*97)∧Below w.heap.size w w'
theorem words_ok (k:Tok) (w:World) (ht:TTab w) (hk:k.ok) :
  Calls Tryz.prog 52 #[k.v] w fun e w'=>WordsPost w k e w':=by
 have HF:Hid (∀ W,TTab W→Calls Tryz.prog 85 #[.agg #[zI (k.c:Int),zI (k.i:Int),zI (k.a:Int),zI (k.t:Int)]] W fun e w'=>e = .returned (zI 0)∧Below W.heap.size W w'):=fun W hW=>by
  have:=flaw_any k.c k.i k.a k.t W hW
  rwa [flaw_tok.2 hk] at this
 have HP:Hid (∀ W,TTab W→Calls Tryz.prog 87 #[.agg #[zI (k.c:Int),zI (k.i:Int),zI (k.a:Int),zI (k.t:Int)]] W fun e w'=>PackPost W k e w'):=fun W hW=>pack_any k W hk hW
 have HQ:Hid (∀ (x y z:Nat) W,WN x y z k.num→Calls Tryz.prog 86 #[.agg #[.int .u32 (x:Int),.int .u32 (y:Int),.int .u32 (z:Int)],.int .u32 97] W fun e w'=>∃ (a' b' c':Nat) (o:Int),e = .returned (.tuple #[.agg #[.int .u32 (a':Int),.int .u32 (b':Int),.int .u32 (c':Int)],.int .u32 o])∧WN a' b' c' (k.num*97)∧Below W.heap.size W w'):=fun x y z W hW=>
  times_wn x y z k.num 97 W hW (by omega) (by have:=num_bd hk;omega)
 have hb0:Below w.heap.size w ((w.alloc (.cells #[zI (k.c:Int),zI (k.i:Int),zI (k.a:Int),zI (k.t:Int)] 96)).alloc (.cells #[.int .u32 0,.int .u32 0,.int .u32 0] 131)):=(bel_box _ _).alloc (by simp) _;have HB:Hid (Below w.heap.size w ((w.alloc (.cells #[zI (k.c:Int),zI (k.i:Int),zI (k.a:Int),zI (k.t:Int)] 96)).alloc (.cells #[.int .u32 0,.int .u32 0,.int .u32 0] 131))):=hb0;have HT:Hid (TTab ((w.alloc (.cells #[zI (k.c:Int),zI (k.i:Int),zI (k.a:Int),zI (k.t:Int)] 96)).alloc (.cells #[.int .u32 0,.int .u32 0,.int .u32 0] 131))):=ht.below hb0;have HR:Hid (Blk ((w.alloc (.cells #[zI (k.c:Int),zI (k.i:Int),zI (k.a:Int),zI (k.t:Int)] 96)).alloc (.cells #[.int .u32 0,.int .u32 0,.int .u32 0] 131)) (w.heap.size+1) #[.int .u32 0,.int .u32 0,.int .u32 0] 131):=Blk.new1 _ _ _ _;have HX:Hid (Blk ((w.alloc (.cells #[zI (k.c:Int),zI (k.i:Int),zI (k.a:Int),zI (k.t:Int)] 96)).alloc (.cells #[.int .u32 0,.int .u32 0,.int .u32 0] 131)) w.heap.size #[zI (k.c:Int),zI (k.i:Int),zI (k.a:Int),zI (k.t:Int)] 96):=(Blk.new _ _ _).alloc _;clear ht hk hb0;unfold Tok.v;go_enter Tryz.func52,Tryz.ntmps52;go_wp2_with fail;refine (HF.o _ HT.o).mono ?_;rintro e w1 ⟨rfl,hb1⟩;have HB1:=shB HB hb1;have HT1:Hid (TTab w1):=HT.o.below hb1;have HR1:=shN HR hb1;have hX:=HX.o.next hb1;have x0:=hX.cell 0;have x1:=hX.cell 1;have x2:=hX.cell 2;have x3:=hX.cell 3;clear hb1 HF HB HT HX hX HR;go_wp2_with fail;refine (HP.o _ HT1.o).mono ?_;rintro e w2 ⟨x,y,z,rfl,hwn,hb2⟩;have HB2:=shB HB1 hb2;have HR2:=shN HR1 hb2;have HN:Hid (WN x y z k.num):=hwn;clear hb2 hwn HB1 HT1 HP x0 x1 x2 x3 HR1;go_wp2_with fail;refine (HQ.o _ _ _ _ HN.o).mono ?_;rintro e w3 ⟨a',b',c',o,rfl,hwn,hb3⟩;have hB3:=(bel_step HB2.o hb3).alloc (bel_step HB2.o hb3).size (.cells #[.int .u32 (a':Int),.int .u32 (b':Int),.int .u32 (c':Int)] 131);have hR3:=(HR2.o.next hb3).alloc (.cells #[.int .u32 (a':Int),.int .u32 (b':Int),.int .u32 (c':Int)] 131)
 have HN3:Hid (WN a' b' c' (k.num*97)):=hwn;clear hb3 HB2 HQ HR2 HN hwn;have HB4:Hid (Below w.heap.size w ((((w3.alloc (.cells #[.int .u32 (a':Int),.int .u32 (b':Int),.int .u32 (c':Int)] 131)).setCell ⟨w.heap.size+1,0,none⟩ (.int .u32 (a':Int))).setCell ⟨w.heap.size+1,1,none⟩ (.int .u32 (b':Int))).setCell ⟨w.heap.size+1,2,none⟩ (.int .u32 (c':Int)))):=bel_set (bel_set (bel_set hB3 _ _ _ (by omega)) _ _ _ (by omega)) _ _ _ (by omega);have RR:Blk ((((w3.alloc (.cells #[.int .u32 (a':Int),.int .u32 (b':Int),.int .u32 (c':Int)] 131)).setCell ⟨w.heap.size+1,0,none⟩ (.int .u32 (a':Int))).setCell ⟨w.heap.size+1,1,none⟩ (.int .u32 (b':Int))).setCell ⟨w.heap.size+1,2,none⟩ (.int .u32 (c':Int))) (w.heap.size+1) #[.int .u32 (a':Int),.int .u32 (b':Int),.int .u32 (c':Int)] 131:=((hR3.set 0 _).set 1 _).set 2 _;have R0:Hid (_=_):=RR.cell 0;have R1:Hid (_=_):=RR.cell 1;have R2:Hid (_=_):=RR.cell 2;have x0:=hR3.cell 0;have x1:=hR3.cell 1;have x2:=hR3.cell 2;have f0:=hR3.free 0;have f1:=hR3.free 1;have f2:=hR3.free 2;clear RR hR3 hB3;go_wp2_with fail;refine bodyPost_ret (v:= .tuple #[.agg #[.int .u32 (a':Int),.int .u32 (b':Int),.int .u32 (c':Int)],zI 0]) (by simp [results,Tryz.results52,R0.o,R1.o,R2.o,go_sem]) rfl ⟨a',b',c',rfl,HN3.o,HB4.o⟩
end token
namespace vnd
open disk (RepIs repD lenAt itD)
open book (Ev ev0 evOf ECame)
open Go.RowKit
theorem it_in (c:List Int) (k:Nat):∀ z∈(disk.itD c k).1,∀ x∈z,x∈c:=by
 induction k with
 | zero=>intro z hz;simp [disk.itD] at hz
 | succ k ih=>
  intro z hz x hx;by_cases h:0<disk.lenAt c (disk.itD c k).2
  ·rw [disk.it_live h] at hz;rcases List.mem_append.1 hz with hz | hz
   ·exact ih z hz x hx
   ·rw [List.mem_singleton.1 hz] at hx;exact List.mem_of_mem_drop (List.mem_of_mem_take hx)
  ·have e:=disk.it_dead h 1;rw [e] at hz;exact ih z hz x hx
theorem rep_in {c:List Int} {o:List (List Int)} {x f:Int} (h:RepIs c o x f):∀ z∈o,∀ y∈z,y∈c:=by
 rcases h with ⟨_,rfl,_⟩ | ⟨_,_,rfl,_⟩ | ⟨_,_,rfl,_⟩
 ·intro z hz;cases hz
 ·intro z hz;cases hz
 ·exact it_in c _
theorem rep_len {c:List Int} {o:List (List Int)} {x f:Int} (h:RepIs c o x f):o.length≤2048:=(disk.rep_few h).1
theorem getD_inR {o:List (List Int)} {j:Nat} (h:j<o.length):o.getD j []∈o:=by
 have e:o.getD j []=o[j]:=by simp [List.getD,List.getElem?_eq_getElem h]
 rw [e];exact List.getElem_mem _
theorem take_mapE (o:List (List Int)) (k:Nat) (h:k<o.length):(o.take k).map evOf++[evOf (o.getD k [])]=(o.take (k+1)).map evOf:=by
 have e:o.getD k []=o[k]:=by simp [List.getD,List.getElem?_eq_getElem h]
 rw [List.take_succ_eq_append_getElem h,List.map_append,e];rfl
def KeptPost (w:World) (c:List Int) (e:Ending) (w':World):Prop:=∃ p m cp l f,e = .returned (.tuple #[.slice p m cp,zI f])∧KeptIs c l f∧ECame w' p m cp l∧m≤2048∧Below w.heap.size w w'
theorem ecame_nil (w:World):ECame w none 0 0 []:=⟨⟨rfl,.inl rfl⟩,fun _=>rfl,Nat.le_refl _,by omega,fun v hv=>by cases hv⟩
end vnd
namespace words
open Go.RowKit
theorem overStep_any (B M:Nat) (n x d:Int) (w:World) (hc:w.cell? ⟨B,0,none⟩=some (.int .u64 n)) (hf:w.frozen? ⟨B,0,none⟩=false) (hm:w.cell? ⟨M,0,none⟩=some (.int .u32 d)) (hBM:M≠B) (n0:0≤n) (n1:n<d) (x0:0≤x) (x1:x<4294967296) (d0:0<d) (d1:d<4294967296) :
  Calls Tryz.prog 134 #[.int .u32 x,.pointer (some ⟨B,0,none⟩),.pointer (some ⟨M,0,none⟩)] w fun e w'=>e = .returned (.int .u32 ((n*4294967296+x) / d))∧Acc w w' B (.int .u64 ((n*4294967296+x) % d)):=by
 have hA:Acc w w B (.int .u64 n):=Acc.refl hc hf;have HA:Hid (Acc w w B (.int .u64 n)):=hA;have hor:=or_words n x n0 (by omega) x0 x1;have q:=word_div d0 n0 n1 x0 x1;obtain ⟨q0,q1⟩:=q;have r0:0≤(n*4294967296+x) % d:=Int.emod_nonneg _ (by omega);have r1:(n*4294967296+x) % d<d:=Int.emod_lt_of_pos _ d0;clear hA;go_enter Tryz.func134,Tryz.ntmps134;go_wp2_with fail;go_ret;exact ⟨rfl,HA.o.set _⟩
theorem run_overStep (args:Array Value) (w:World):(callFunc 134 args).run Tryz.prog w = .ok (.enter 134 args) w:=by kernel_rfl
theorem over_any (x:W3) (d:Int) (w:World) (hx:x.ok) (d0:0<d) (d1:d<4294967296) :
  Calls Tryz.prog 88 #[wv x,.int .u32 d] w fun e w'=>e = .returned (.tuple #[wv (overW x d),.int .u32 (overR x d),zI 0])∧Below w.heap.size w w':=by
 obtain ⟨x0,x1,x2⟩:=x;obtain ⟨⟨h0,h0'⟩,⟨h1,h1'⟩,h2,h2'⟩:=hx;simp only at h0 h0' h1 h1' h2 h2';have hd0:(d == 0)=false:=by simp;omega
 go_enter Tryz.func88,Tryz.ntmps88;go_wp2_with fail;have hc:=trio_d w #[.int .u32 x0,.int .u32 x1,.int .u32 x2] (.int .u32 d) 99 (.int .u32 0) (.int .u32 0) (.int .u32 0) (.int .u64 0) 223;have hb3:=bel4 w (.cells #[.int .u32 x0,.int .u32 x1,.int .u32 x2] 131) (.cells #[.int .u32 d] 99) (.cells #[.int .u32 0,.int .u32 0,.int .u32 0] 131) (.cells #[.int .u64 0] 223);have e0:(0:Int)*4294967296+x2=x2:=by omega
 have r2:0≤x2 % d:=Int.emod_nonneg _ (by omega);have r2':x2 % d<d:=Int.emod_lt_of_pos _ d0;have r1:0≤((x2 % d)*4294967296+x1) % d:=Int.emod_nonneg _ (by omega);have r1':((x2 % d)*4294967296+x1) % d<d:=Int.emod_lt_of_pos _ d0
 refine (downward_any 134 #[.pointer (some ⟨w.heap.size+1+1+1,0,none⟩),.pointer (some ⟨w.heap.size+1,0,none⟩)] (w.heap.size+1+1+1) (.int .u64 0) (.int .u64 (x2 % d)) (.int .u64 (((x2 % d)*4294967296+x1) % d)) (.int .u64 (((((x2 % d)*4294967296+x1) % d)*4294967296+x0) % d)) x0 x1 x2
  (((((x2 % d)*4294967296+x1) % d)*4294967296+x0) / d) (((x2 % d)*4294967296+x1) / d) (x2 / d) _ (Acc.refl hc.1 hc.2.1) run_overStep
  (fun w' h=>by have:=overStep_any (w.heap.size+1+1+1) (w.heap.size+1) 0 x2 d w' h.cell h.free (h.keep hc.2.2.2 (by omega)) (by omega) (by omega) (by omega) h2 h2' d0 d1;rw [e0] at this;exact this)
  (fun w' h=>overStep_any _ _ _ _ _ w' h.cell h.free (h.keep hc.2.2.2 (by omega)) (by omega) r2 r2' h1 h1' d0 d1)
  (fun w' h=>overStep_any _ _ _ _ _ w' h.cell h.free (h.keep hc.2.2.2 (by omega)) (by omega) r1 r1' h0 h0' d0 d1)).mono ?_
 rintro e w1 ⟨he,hA⟩;have hR:Trio w1 (w.heap.size+1+1) (.int .u32 0) (.int .u32 0) (.int .u32 0):=hc.2.2.1.acc hA (by omega);have HB:Hid (Below w.heap.size w w1):=hA.below hb3 (by omega);have hcell:=hA.cell;have hsz:w.heap.size+1+1+1<w1.heap.size:=Nat.lt_of_lt_of_le hA.old hA.size;have z0:0≤((((x2 % d)*4294967296+x1) % d)*4294967296+x0) % d:=Int.emod_nonneg _ (by omega);have z1:((((x2 % d)*4294967296+x1) % d)*4294967296+x0) % d<d:=Int.emod_lt_of_pos _ d0
 have HE:Hid (Ending.returned (.tuple #[wv (overW ⟨x0,x1,x2⟩ d),.int .u32 (overR ⟨x0,x1,x2⟩ d),zI 0])=Ending.returned (.tuple #[.agg #[.int .u32 (((((x2 % d)*4294967296+x1) % d)*4294967296+x0) / d),.int .u32 (((x2 % d)*4294967296+x1) / d),.int .u32 (x2 / d)],.int .u32 (((((x2 % d)*4294967296+x1) % d)*4294967296+x0) % d),zI 0])):=by
  have:Ending.returned (.tuple #[wv (overW ⟨x0,x1,x2⟩ d),.int .u32 (overR ⟨x0,x1,x2⟩ d),zI 0])=Ending.returned (.tuple #[.agg #[.int .u32 (((((x2 % d)*4294967296+x1) % d)*4294967296+x0) / d),.int .u32 (((x2 % d)*4294967296+x1) / d),.int .u32 (x2 / d)],.int .u32 (((((x2 % d)*4294967296+x1) % d)*4294967296+x0) % d),zI 0]):=rfl;exact this
 clear hA hc hb3 e0 r1 r1' r2 r2';have HE2:Hid (e = .returned (.agg #[.int .u32 (((((x2 % d)*4294967296+x1) % d)*4294967296+x0) / d),.int .u32 (((x2 % d)*4294967296+x1) / d),.int .u32 (x2 / d)])):=he;clear he;generalize hz:((((x2 % d)*4294967296+x1) % d)*4294967296+x0) % d=z at hcell z0 z1 HE HE2;generalize hy0:((((x2 % d)*4294967296+x1) % d)*4294967296+x0) / d=y0 at HE HE2;generalize hy1:((x2 % d)*4294967296+x1) / d=y1 at HE HE2;generalize hy2:x2 / d=y2 at HE HE2;clear hz hy0 hy1 hy2;obtain rfl:=HE2.o;clear HE2;have hR:=hR.alloc (.cells #[.int .u32 y0,.int .u32 y1,.int .u32 y2] 131);have r0:=hR.c0;have r1:=hR.c1;have r2:=hR.c2;have g0:=hR.free 0;have g1:=hR.free 1;have g2:=hR.free 2;have HR:Hid (Trio (w1.alloc (.cells #[.int .u32 y0,.int .u32 y1,.int .u32 y2] 131)) (w.heap.size+1+1) (.int .u32 0) (.int .u32 0) (.int .u32 0)):=hR;clear hR;go_wp2_with fail;go_region
 all_goals go_wp2_with fail
 have RR:=((HR.o.set0 (.int .u32 y0)).set1 (.int .u32 y1)).set2 (.int .u32 y2);refine bodyPost_ret (v:= .tuple #[.agg #[.int .u32 y0,.int .u32 y1,.int .u32 y2],.int .u32 z,zI 0]) (by simp [results,Tryz.results88,RR.c0,RR.c1,RR.c2,go_sem]) rfl ⟨HE.o.symm,?_⟩;exact below_put (HB.o.alloc HB.o.size _) _ _ _ _ _ _ _ (by omega)
end words
namespace vnd
open Go.ChangeShapes Go.WideShapes Go.ChangeAt Go.RowKit Go.Deep
def Od.v (x:Od):Value:= .agg #[zI x.k,zI x.m,zI x.a,zI x.b,zI x.d]
theorem od_cells {H:Type} {enc:TypeId × Value→H} {W:World} {b1:Nat} {spare:Nat→Bool} {held:Bool} {fuel:Nat} {cs:List Value} {x:DataW H × List MemPlace}
  (hsz:cs.length=5) (hf:DataW.trod enc Tryz.prog W b1 spare held fuel 75 cs=some x) :
  ∃ x:Od,cs=x.cs.toList∧wf5 x:=by
 have hu:=Tryz.underlying75;have ci:Tryz.prog.cellsOf 3=1:=by kernel_rfl
 obtain ⟨c0,c1,c2,c3,c4,rfl⟩:∃ c0 c1 c2 c3 c4,cs=[c0,c1,c2,c3,c4]:=by
  match cs,hsz with
  | [c0,c1,c2,c3,c4],_=>exact ⟨c0,c1,c2,c3,c4,rfl⟩
 obtain ⟨xs,n,_,_,_,hlen,hg⟩:=DataW.trod_struct hu hf
 match xs,hlen with
 | [y0,y1,y2,y3,y4],_=>
  have g0:=hg 0 _ rfl;have g1:=hg 1 _ rfl;have g2:=hg 2 _ rfl;have g3:=hg 3 _ rfl;have g4:=hg 4 _ rfl;simp [ci] at g0 g1 g2 g3 g4;obtain ⟨x0,e0,-,w0⟩:=DataW.trod_int Tryz.underlying3 g0;obtain ⟨x1,e1,-,w1⟩:=DataW.trod_int Tryz.underlying3 g1;obtain ⟨x2,e2,-,w2⟩:=DataW.trod_int Tryz.underlying3 g2;obtain ⟨x3,e3,-,w3⟩:=DataW.trod_int Tryz.underlying3 g3;obtain ⟨x4,e4,-,w4⟩:=DataW.trod_int Tryz.underlying3 g4;simp at e0 e1 e2 e3 e4;subst e0 e1 e2 e3 e4;exact ⟨⟨x0,x1,x2,x3,x4⟩,rfl,w0,w1,w2,w3,w4⟩
theorem rowO_of {w:World} {a:Addr} {m len:Nat} (hl:len≤m)
  (h:∀ i,i<m→∃ y:Od,(∀ j,j<5→w.cell? (a.add (i*5+j))=y.cs.toList[j]?)∧wf5 y) :
  ∃ zs:List Od,RowO w (some a) len zs:=by
 haveI:Inhabited Od:=⟨od0⟩
 obtain ⟨f,hf⟩:=Deep.choose_lt h;have e:∀ i,i<len→((List.range len).map f).getD i od0=f i:=fun i hi=>by simp [List.getD,hi]
 refine ⟨(List.range len).map f,⟨by simp,?_,fun i hi=>by rw [e i hi];exact (hf i (by omega)).2⟩⟩;by_cases h0:len=0
 ·exact .inl h0
 ·obtain ⟨b,off,spot⟩:=a;have e0:w.cell? ((⟨b,off,spot⟩:Addr).add (0*5+0))=some (zI (f 0).k):=(hf 0 (by omega)).1 0 (by omega);have hs:spot=none:=by simpa [Addr.add] using World.cell?_spot e0
  subst hs;refine .inr ⟨b,off,rfl,?_,fun i j hi hj=>?_⟩
  ·rw [Addr.add_lit] at e0;exact World.block_lt_of_cell? w _ e0
  ·have h1:=(hf i (by omega)).1 j hj;rw [Addr.add_lit,← Nat.add_assoc] at h1;rw [e i hi,h1];simp
theorem open_orders {H:Type} {enc:TypeId × Value→H} {W:World} {r:Reach} {b0 b1:Nat} {held:Bool} {v:Value} {d:DataW H} {ps:List MemPlace}
  (hval:Value.okWide Tryz.prog W r b0 36 v) (h:DataW.Trod enc Tryz.prog W b1 (fun _=>true) held 36 v d ps) (hs:∀ n∈d.weights Tryz.prog 36,n≤reachBytes) :
  ∃ (p:Option Addr) (len cap:Nat) (l:List Od),v = .slice p len cap∧RowO W p len l:=by
 have hu:=Tryz.underlying36;have hc:Tryz.prog.cellsOf 75=5:=by kernel_rfl
 obtain ⟨p,len,cap,rfl⟩:=okWide_slice hu hval;obtain ⟨fuel,hf⟩:=h;rcases Deep.open_slice hu hf with ⟨hcs,_⟩ | ⟨a,l,c,m,n,D,Pl,hcs,_,hl,hm,hmm,hy,hall⟩
 ·simp [Value.cells] at hcs;obtain ⟨rfl,rfl,rfl⟩:=hcs;exact ⟨none,0,0,[],rfl,⟨rfl,.inl rfl,fun i hi=>absurd hi (Nat.not_lt_zero _)⟩⟩
 ·simp [Value.cells] at hcs;obtain ⟨rfl,rfl,rfl⟩:=hcs;simp only [if_true] at hmm;subst hmm;rw [hc] at hall
  obtain ⟨zs,r1⟩:=rowO_of (w:=W) (a:=a) (m:=m) hl (fun i hi=>by
   obtain ⟨cs',h1,h2⟩:=hall i hi;obtain ⟨_,hlen,hcell⟩:=World.cells?_some h1;obtain ⟨y,rfl,hw⟩:=od_cells hlen h2
   exact ⟨y,fun j hj=>by have:=hcell j hj;rwa [Deep.add_add] at this,hw⟩)
  exact ⟨some a,len,m,zs,rfl,r1⟩
end vnd
end Go.Proofs.YtnpblpbohcegoaaGreatDoor
