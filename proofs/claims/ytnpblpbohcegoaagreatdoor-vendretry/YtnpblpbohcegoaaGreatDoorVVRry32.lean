import Derived.Test.YtnpblpbohcegoaaGreatDoorVVRry25
import Derived.Test.YtnpblpbohcegoaaGreatDoorVVRry28
import Derived.Test.YtnpblpbohcegoaaGreatDoorVVRry29
import Derived.Test.YtnpblpbohcegoaaGreatDoorVVRry30
import Derived.Test.YtnpblpbohcegoaaGreatDoorVVRry31
set_option linter.unusedVariables false
set_option linter.unusedSimpArgs false
set_option maxHeartbeats 4000000
set_option maxRecDepth 100000
namespace Go.Proofs.YtnpblpbohcegoaaGreatDoor
namespace vnd
open book (Ev ev0 Cm cm0 So so0 Sees)
open acc (Ac Tm Bi)
open ora (Pr)
open cell (Wr RowU RowW)
open rcp (Rc rc0)
open Go.RowKit
theorem served_any {w:World} (K0:KvCha) (K1:KvGrant w) (K2:KvRekey w) (K3:KvSell w) (t:Tm) (pt:Option Addr) (lt ct:Nat) (a:Option Addr) (n cap:Nat) (c:List Int) (ao:Option Addr) (no ko:Nat) (o:List Pr) (x:Od) (ht:acc.TCame w t pt lt ct) (h:Dk w a n cap c) (ho:ora.Came w ao no ko o) (hx:wf5 x):Calls Tryz.prog 21 #[.agg #[.slice pt lt ct,zI t.ff,zI t.fb,zI t.db,zI t.al,.slice a n cap,.slice ao no ko],.agg #[zI x.k,zI x.m,zI x.a,zI x.b,zI x.d]] w fun e w'=>ServePost w ao no (ServedIs t c o x) e w':=by
 by_cases h0:check.pick x.k 8=0
 ·exact served0 K0 t pt lt ct a n cap c ao no ko o x w ht h ho hx h0
 ·by_cases h1:check.pick x.k 8=1
  ·exact served1 K1 t pt lt ct a n cap c ao no ko o x ht h ho hx h1
  ·by_cases h2:check.pick x.k 8=2
   ·exact served2 K2 t pt lt ct a n cap c ao no ko o x ht h ho hx h2
   ·exact served3 K3 t pt lt ct a n cap c ao no ko o x ht h ho hx ⟨h0,h1,h2⟩
open disk (RepIs AppIs May repD lenAt appW Wds)
open book (EMay evL evOf EncIs DecIs BookIs FirstAt NoneAt StepIs HapIs)
open ora (IssueIs)
open cell (wrt)
def Od.cs (x:Od):Array Value:=#[zI x.k,zI x.m,zI x.a,zI x.b,zI x.d]
structure RowO (w:World) (p:Option Addr) (n:Nat) (xs:List Od):Prop where
 len:xs.length=n
 row:n=0∨∃ b off,p=some ⟨b,off,none⟩∧b<w.heap.size∧∀ i j,i<n→j<5→w.cell? ⟨b,off+i*5+j,none⟩=(xs.getD i od0).cs[j]?
 wf:∀ i,i<n→wf5 (xs.getD i od0)
theorem RowO.below {w w':World} {p:Option Addr} {n:Nat} {xs:List Od} (h:RowO w p n xs) (hb:Below w.heap.size w w'):RowO w' p n xs:=by
 refine ⟨h.len,?_,h.wf⟩;rcases h.row with h0 | ⟨b,off,rfl,lb,hc⟩
 ·exact .inl h0
 ·exact .inr ⟨b,off,rfl,Nat.lt_of_lt_of_le lb hb.size,fun i j hi hj=>(hb.cell (p:=⟨b,off+i*5+j,none⟩) lb).trans (hc i j hi hj)⟩
theorem RowO.at {w:World} {p:Option Addr} {n:Nat} {xs:List Od} (h:RowO w p n xs) {i:Nat} (hi:i<n):∃ b off,p=some ⟨b,off,none⟩∧b<w.heap.size∧w.cell? ⟨b,off+i*5,none⟩=some (zI (xs.getD i od0).k)∧w.cell? ⟨b,off+i*5+1,none⟩=some (zI (xs.getD i od0).m)∧w.cell? ⟨b,off+i*5+2,none⟩=some (zI (xs.getD i od0).a)∧w.cell? ⟨b,off+i*5+3,none⟩=some (zI (xs.getD i od0).b)∧w.cell? ⟨b,off+i*5+4,none⟩=some (zI (xs.getD i od0).d):=by
 rcases h.row with h0 | ⟨b,off,rfl,lb,hc⟩
 ·omega
 ·exact ⟨b,off,rfl,lb,hc i 0 hi (by decide),hc i 1 hi (by decide),hc i 2 hi (by decide),hc i 3 hi (by decide),hc i 4 hi (by decide)⟩
structure Opn (W:World) (t:Tm) (pt:Option Addr) (lt ct:Nat) (a:Option Addr) (cap:Nat) (c:List Int) (ao:Option Addr) (no ko:Nat) (o:List Pr) (l:List Ev) (bk:List Cm):Prop where
 tc:acc.TCame W t pt lt ct
 dk:Dk W a 600 cap c
 oc:ora.Came W ao no ko o
 shop:Shop t c 600 l bk
theorem Opn.next {t:Tm} {pt:Option Addr} {lt ct:Nat} {a:Option Addr} {cap:Nat} {c:List Int} {ao:Option Addr} {no ko:Nat} {o:List Pr} {l:List Ev} {bk:List Cm} {W W':World} (h:Opn W t pt lt ct a cap c ao no ko o l bk) (hb:Below W.heap.size W W'):Opn W' t pt lt ct a cap c ao no ko o l bk:=⟨h.tc.below hb,h.dk.below hb,h.oc.below hb,h.shop⟩
structure St (W:World) (B:Nat) (t:Tm) (pt:Option Addr) (lt ct:Nat) (a:Option Addr) (cap:Nat) (c:List Int) (ao:Option Addr) (no ko:Nat) (o:List Pr) (l:List Ev) (bk:List Cm):Prop where
 box:Blk W B #[.slice pt lt ct,zI t.ff,zI t.fb,zI t.db,zI t.al,.slice a 600 cap,.slice ao no ko] 41
 is:Opn W t pt lt ct a cap c ao no ko o l bk
 farT:0<lt→∀ y,pt=some y→y.block≠B
 farO:0<no→∀ y,ao=some y→y.block≠B
theorem St.next {t:Tm} {pt:Option Addr} {lt ct:Nat} {a:Option Addr} {cap:Nat} {c:List Int} {ao:Option Addr} {no ko:Nat} {o:List Pr} {l:List Ev} {bk:List Cm} {W W':World} {B:Nat} (h:St W B t pt lt ct a cap c ao no ko o l bk) (hb:Below W.heap.size W W'):St W' B t pt lt ct a cap c ao no ko o l bk:=⟨h.box.next hb,h.is.next hb,h.farT,h.farO⟩
theorem came_updD {w W:World} {p:Option Addr} {n cap:Nat} {zs:List tar.Du} {B:Nat} {cs:Array Value} {T:TypeId} (h:tar.Came w p n cap zs) (hU:Upd w W B cs T) (hf:0<n→∀ y,p=some y→y.block≠B):tar.Came W p n cap zs:=by
 refine ⟨⟨h.row.1,?_⟩,h.nil,h.room,h.bytes,h.wf⟩;rcases h.row.2 with h0 | ⟨b,off,rfl,hc⟩
 ·exact .inl h0
 ·by_cases h0:n=0
  ·exact .inl h0
  ·have hne:b≠B:=hf (by omega) ⟨b,off,none⟩ rfl;exact .inr ⟨b,off,rfl,fun i hi=>⟨(hU.cell ⟨b,off+i*2,none⟩ hne rfl).trans (hc i hi).1,(hU.cell ⟨b,off+i*2+1,none⟩ hne rfl).trans (hc i hi).2⟩⟩
theorem no_u32 {t:Tm} {pt:Option Addr} {lt ct:Nat} {a:Option Addr} {cap:Nat} {c:List Int} {ao:Option Addr} {no ko:Nat} {o:List Pr} {l:List Ev} {bk:List Cm}:∀ (j:Nat) (z:Int),(#[.slice pt lt ct,zI t.ff,zI t.fb,zI t.db,zI t.al,.slice a 600 cap,.slice ao no ko]:Array Value)[j]?≠some (Value.int .u32 z):=fun j z=>by
 match j with
 | 0=>simp
 | 1=>simp
 | 2=>simp
 | 3=>simp
 | 4=>simp
 | 5=>simp
 | 6=>simp
 | j+7=>simp
theorem St.words {t:Tm} {pt:Option Addr} {lt ct:Nat} {a:Option Addr} {cap:Nat} {c:List Int} {ao:Option Addr} {no ko:Nat} {o:List Pr} {l:List Ev} {bk:List Cm} {W W':World} {B:Nat} (h:St W B t pt lt ct a cap c ao no ko o l bk) {a2:Option Addr} {cap2:Nat} {c2:List Int} {l2:List Ev} {bk2:List Cm} (hd:Dk W a2 600 cap2 c2) (hs:Shop t c2 600 l2 bk2) (hU:Upd W W' B #[.slice pt lt ct,zI t.ff,zI t.fb,zI t.db,zI t.al,.slice a2 600 cap2,.slice ao no ko] 41):St W' B t pt lt ct a2 cap2 c2 ao no ko o l2 bk2:=
 ⟨hU.blk,⟨⟨came_updD h.is.tc.ts hU h.farT,h.is.tc.wf⟩,dk_upd hd hU (dk_far hd h.box (no_u32 (t:=t) (pt:=pt) (lt:=lt) (ct:=ct) (a:=a) (cap:=cap) (c:=c) (ao:=ao) (no:=no) (ko:=ko) (o:=o) (l:=l) (bk:=bk))),came_upd h.is.oc hU h.farO,hs⟩,h.farT,h.farO⟩
theorem St.ora {t:Tm} {pt:Option Addr} {lt ct:Nat} {a:Option Addr} {cap:Nat} {c:List Int} {ao:Option Addr} {no ko:Nat} {o:List Pr} {l:List Ev} {bk:List Cm} {W W':World} {B:Nat} (h:St W B t pt lt ct a cap c ao no ko o l bk) {a2:Option Addr} {n2 k2:Nat} {o2:List Pr} (ho:ora.Came W a2 n2 k2 o2) (hf:0<n2→∀ y,a2=some y→y.block≠B) (hU:Upd W W' B #[.slice pt lt ct,zI t.ff,zI t.fb,zI t.db,zI t.al,.slice a 600 cap,.slice a2 n2 k2] 41):St W' B t pt lt ct a cap c a2 n2 k2 o2 l bk:=
 ⟨hU.blk,⟨⟨came_updD h.is.tc.ts hU h.farT,h.is.tc.wf⟩,dk_upd h.is.dk hU (dk_far h.is.dk h.box (no_u32 (t:=t) (pt:=pt) (lt:=lt) (ct:=ct) (a:=a) (cap:=cap) (c:=c) (ao:=ao) (no:=no) (ko:=ko) (o:=o) (l:=l) (bk:=bk))),came_upd ho hU hf,h.is.shop⟩,h.farT,hf⟩
def OpenPost (w:World) (e:Ending) (w':World):Prop:=∃ t pt lt ct a cap c ao no ko o l bk,e = .returned (.tuple #[.agg #[.slice pt lt ct,zI t.ff,zI t.fb,zI t.db,zI t.al,.slice a 600 cap,.slice ao no ko],.bool true])∧Opn w' t pt lt ct a cap c ao no ko o l bk∧Three bk∧3≤l.length∧l.length≤15∧o.length≤12∧(0<lt→∀ y,pt=some y→w.heap.size≤y.block)∧(0<no→∀ y,ao=some y→w.heap.size≤y.block)∧Below w.heap.size w w'
def KvRpr (w0:World):Prop:=∀ (W:World) (t:Tm) (pt:Option Addr) (lt ct:Nat) (a:Option Addr) (n cap:Nat) (c:List Int) (me id:Int),Below w0.heap.size w0 W→acc.TCame W t pt lt ct→Dk W a n cap c→(Lit.int .i64 me).wf=true→(Lit.int .i64 id).wf=true→Calls Tryz.prog 10 #[t.v pt lt ct,.slice a n cap,zI me,zI id] W fun e w'=>RprPost W (RepIsP t c me id) e w'
end vnd
namespace token
open words
open Go.RowKit
theorem body_ok (k:Tok) (w:World) (ht:TTab w) (hk:k.ok) :
  Calls Tryz.prog 162 #[k.v] w fun e w'=>e = .returned (.tuple #[zI (k.body:Int),zI 0])∧Below w.heap.size w w':=by
 have HF:Hid (∀ W,TTab W→Calls Tryz.prog 85 #[.agg #[zI (k.c:Int),zI (k.i:Int),zI (k.a:Int),zI (k.t:Int)]] W fun e w'=>e = .returned (zI 0)∧Below W.heap.size W w'):=fun W hW=>by
  have:=flaw_any k.c k.i k.a k.t W hW
  rwa [flaw_tok.2 hk] at this
 have HP:Hid (∀ W,TTab W→Calls Tryz.prog 87 #[.agg #[zI (k.c:Int),zI (k.i:Int),zI (k.a:Int),zI (k.t:Int)]] W fun e w'=>PackPost W k e w'):=fun W hW=>pack_any k W hk hW
 have HQ:Hid (∀ (x y z:Nat) W,WN x y z k.num→Calls Tryz.prog 186 #[.agg #[.int .u32 (x:Int),.int .u32 (y:Int),.int .u32 (z:Int)],zI 16,zI 43] W fun e w'=>e = .returned (.tuple #[.int .u64 (k.body:Int),zI 0])∧Below W.heap.size W w'):=fun x y z W hW=>by
  have:=bits_wn x y z 16 43 k.num W hW (by omega) (by omega) (by omega)
  rwa [show k.num / 2 ^ 16 % 2 ^ 43=k.body from body_num hk] at this
 have hwr:IntKind.i64.wrap (k.body:Int)=(k.body:Int):=wrap_i _ (by have:=body_bd hk;omega);have HT:Hid (TTab (w.alloc (.cells #[zI (k.c:Int),zI (k.i:Int),zI (k.a:Int),zI (k.t:Int)] 96))):=ht.below (bel_box _ _);have HB:Hid (Below w.heap.size w (w.alloc (.cells #[zI (k.c:Int),zI (k.i:Int),zI (k.a:Int),zI (k.t:Int)] 96))):=bel_box _ _;have HX:Hid (Blk (w.alloc (.cells #[zI (k.c:Int),zI (k.i:Int),zI (k.a:Int),zI (k.t:Int)] 96)) w.heap.size #[zI (k.c:Int),zI (k.i:Int),zI (k.a:Int),zI (k.t:Int)] 96):=Blk.new _ _ _;clear ht hk;unfold Tok.v;generalize (k.body:Int)=bd at *;go_enter Tryz.func162,Tryz.ntmps162;go_wp2_with fail;refine (HF.o _ HT.o).mono ?_;rintro e w1 ⟨rfl,hb1⟩;have HB1:=shB HB hb1;have HT1:Hid (TTab w1):=HT.o.below hb1;have hX:=HX.o.next hb1;have x0:=hX.cell 0;have x1:=hX.cell 1;have x2:=hX.cell 2;have x3:=hX.cell 3;clear hb1 HF HB HT HX hX;go_wp2_with fail;refine (HP.o _ HT1.o).mono ?_;rintro e w2 ⟨x,y,z,rfl,hwn,hb2⟩;have HB2:=shB HB1 hb2;have HN:Hid (WN x y z k.num):=hwn;clear hb2 hwn HB1 HT1 HP x0 x1 x2 x3;go_wp2_with fail;refine (HQ.o _ _ _ _ HN.o).mono ?_;rintro e w3 ⟨rfl,hb3⟩;have HB3:=shB HB2 hb3;clear hb3 HB2 HQ;go_wp2_with fail;refine bodyPost_ret (v:= .tuple #[zI bd,zI 0]) (by simp [results,Tryz.results162,go_sem]) rfl ⟨rfl,HB3.o⟩
end token
namespace disk
open Go.RowKit cell
theorem app_yes {c:List Int} {p:Nat} {r:List Int} (h:p+r.length+1<c.length):putW p r r.length++[⟨(p:Int)+(r.length:Int)+1,0⟩]++[⟨(p:Int),(r.length:Int)⟩]=appW c p r:=by
 unfold appW zeroW;rw [if_pos h,List.append_assoc,show ((p+r.length+1:Nat):Int)=(p:Int)+(r.length:Int)+1 by omega]
theorem app_no {c:List Int} {p:Nat} {r:List Int} (h:¬ p+r.length+1<c.length):putW p r r.length++[⟨(p:Int),(r.length:Int)⟩]=appW c p r:=by
 unfold appW zeroW;rw [if_neg h,List.nil_append]
theorem make_wr (m:Nat) (h:m≤100000) (w:World):(Instr.makeSlice 76 (zI 0) (zI ((m:Int)+2))).run Tryz.prog w = .ok (.slice (some ⟨w.heap.size,0,none⟩) 0 (m+2)) (w.alloc (.cells (madeCells (Value.agg #[zI 0,.int .u32 0]).cells ((m+2)*2)) 122)):=by
 obtain ⟨i0,hi,hz0,hz1,hz2⟩:=info_parts info_wr;have:=run_make (P:=Tryz.prog) w 76 122 i0 (.agg #[zI 0,.int .u32 0]) Tryz.underlying76 hi hz0 .i64 .i64 0 ((m:Int)+2) (by omega) (by omega) (by rw [hz2];omega) (by omega);rw [hz1,show ((m:Int)+2).toNat=m+2 by omega] at this;exact this
theorem put_next2 (p k:Nat) (r:List Int):putW p r k++[⟨(p:Int)+1+(k:Int),r.getD k 0⟩]=putW p r (k+1):=by
 rw [putW,show ((p+k+1:Nat):Int)=(p:Int)+1+(k:Int) by omega]
theorem app_yes2 {c:List Int} {p k:Nat} {r:List Int} (hk:r.length=k) (h:p+k+1<c.length):putW p r k++[⟨(p:Int)+1+(k:Int),0⟩]++[⟨(p:Int),(k:Int)⟩]=appW c p r:=by
 subst hk;rw [← app_yes h,show (p:Int)+1+(r.length:Int)=(p:Int)+(r.length:Int)+1 by omega]
theorem app_no2 {c:List Int} {p k:Nat} {r:List Int} (hk:r.length=k) (h:¬ p+k+1<c.length):putW p r k++[⟨(p:Int),(k:Int)⟩]=appW c p r:=by
 subst hk;exact app_no h
theorem laying_any (a:Option Addr) (m cap2:Nat) (r c:List Int) (p n:Nat) (w:World) (h:RowU w a m r) (h1:1≤m) (h2:m≤64) (hp:p≤2048) (hn:n≤2048) (hc:c.length=n) :
  Calls Tryz.prog 155 #[.slice a m cap2,zI (p:Int),zI (n:Int)] w fun e w'=>∃ V,e = .returned V∧Lw w' w.heap.size V (appW c p r)∧Below w.heap.size w w':=by
 obtain ⟨b,o,rfl,lb,hcl⟩:=h.at (by omega);have HCL:Hid (∀ W,Below w.heap.size w W→∀ j,j<m→W.cell? ⟨b,o+j,none⟩=some (.int .u32 (r.getD j 0))):=fun W hB j hj=>(hB.cell (p:=⟨b,o+j,none⟩) lb).trans (hcl j hj);have HN:Hid (c.length=n∧r.length=m):=⟨hc,h.1⟩
 have hmk:=make_wr m (by omega) w;have HL0:Hid (Lw (w.alloc (.cells (madeCells (Value.agg #[zI 0,.int .u32 0]).cells ((m+2)*2)) 122)) w.heap.size (.slice (some ⟨w.heap.size,0,none⟩) 0 (m+2)) []):=World.ownsRow_made w _ (m+2) (Nat.le_refl _) (by unfold maxLen;omega) (size_madeCells _ _);have HB0:Hid (Below w.heap.size w (w.alloc (.cells (madeCells (Value.agg #[zI 0,.int .u32 0]).cells ((m+2)*2)) 122))):=(Below.refl _ _).alloc (Nat.le_refl _) _;clear h hc hcl lb;generalize (w.alloc (.cells (madeCells (Value.agg #[zI 0,.int .u32 0]).cells ((m+2)*2)) 122))=W0 at *;go_enter Tryz.func155,Tryz.ntmps155;go_wp2_with fail;clear hmk;go_loopw [7,8,19] (fun v7 v8 v19 wr=>∃ (k:Nat) (V:Value),k≤m∧V=v7∧v8=zI ((p:Int)+1+(k:Int))∧v19=zI (k:Int)∧Lw wr w.heap.size V (putW p r k)∧Below w.heap.size w wr) (fun _ _ v19 _=>m - (intOf v19).toNat)
 case atStart=>exact ⟨0,_,Nat.zero_le _,rfl,by go_num,rfl,HL0.o,HB0.o⟩
 case round=>
  obtain ⟨k,V,hk,hV,rfl,rfl,hlw,hbl⟩:=hrel;subst hV;have HBL:Hid (Below w.heap.size w wr):=hbl;have hs6:(putW p r k).length≤1000000:=by rw [put_len];omega
  have HUA:Hid (∀ o,Lw (wr.alloc o) w.heap.size V (putW p r k)):=fun o=>hlw.alloc o;have HBA:Hid (∀ o,Below w.heap.size w (wr.alloc o)):=fun o=>hbl.alloc hbl.size o;have HSA:Hid (∀ o,w.heap.size≤(wr.alloc o).heap.size):=fun o=>(hbl.alloc hbl.size o).size;clear hlw hbl HL0 HB0;by_cases hkm:k<m
  ·have k2:=HCL.o wr HBL.o k hkm;have HPN:Hid (putW p r k++[⟨(p:Int)+1+(k:Int),r.getD k 0⟩]=putW p r (k+1)):=put_next2 p k r;generalize r.getD k 0=u at *;go_wp2_with (first | (refine wp_write rfl _ _ rfl w.heap.size wr.heap.size V (putW p r k) ⟨(p:Int)+1+(k:Int),u⟩ rfl rfl (HUA.o _) ⟨(Blk.new wr _ _).cell 0,(Blk.new wr _ _).cell 1⟩ hs6 (HSA.o _) ?_;intro v3 w3 h3 hg3;have hb3:=own_bel (HUA.o _) hg3 (HBA.o _) (Nat.le_refl _) (HSA.o _);have H3:Hid (Lw w3 w.heap.size v3 (putW p r k++[(⟨(p:Int)+1+(k:Int),u⟩:Wr)])):=h3;have HB3:Hid (Below w.heap.size w w3):=hb3;clear h3 hg3 hb3) | fail)
   go_roundw
   case rel=>exact ⟨k+1,v3,by omega,rfl,by go_num,by go_num,by rw [← HPN.o];exact H3.o,HB3.o⟩
   case measure=>simp [intOf];omega
  ·obtain rfl:k=m:=by omega
   by_cases hz:(p:Int)+1+(k:Int)<(n:Int)
   ·have HQ:Hid (putW p r k++[⟨(p:Int)+1+(k:Int),0⟩]++[⟨(p:Int),(k:Int)⟩]=appW c p r):=app_yes2 HN.o.2 (by rw [HN.o.1];omega);have hs7:(putW p r k++[(⟨(p:Int)+1+(k:Int),0⟩:Wr)]).length≤1000000:=by rw [List.length_append,put_len];simp;omega
    go_upto_region 11 with (first | (refine wp_write rfl _ _ rfl w.heap.size wr.heap.size V (putW p r k) ⟨(p:Int)+1+(k:Int),0⟩ rfl rfl (HUA.o _) ⟨(Blk.new wr _ _).cell 0,(Blk.new wr _ _).cell 1⟩ hs6 (HSA.o _) ?_;intro v3 w3 h3 hg3;have hb3:=own_bel (HUA.o _) hg3 (HBA.o _) (Nat.le_refl _) (HSA.o _);have H3:Hid (Lw w3 w.heap.size v3 (putW p r k++[(⟨(p:Int)+1+(k:Int),0⟩:Wr)])):=h3;have HB3:Hid (Below w.heap.size w w3):=hb3;clear h3 hg3 hb3) | fail)
    have HU3:Hid (∀ o,Lw (w3.alloc o) w.heap.size v3 (putW p r k++[(⟨(p:Int)+1+(k:Int),0⟩:Wr)])):=fun o=>H3.o.alloc o;have HBB:Hid (∀ o,Below w.heap.size w (w3.alloc o)):=fun o=>HB3.o.alloc HB3.o.size o;have HS3:Hid (∀ o,w.heap.size≤(w3.alloc o).heap.size):=fun o=>(HB3.o.alloc HB3.o.size o).size;clear HUA HBA HSA HBL H3 HB3;go_wp2_with (first | (refine wp_write rfl _ _ rfl w.heap.size w3.heap.size v3 (putW p r k++[(⟨(p:Int)+1+(k:Int),0⟩:Wr)]) ⟨(p:Int),(k:Int)⟩ rfl rfl (HU3.o _) ⟨(Blk.new w3 _ _).cell 0,(Blk.new w3 _ _).cell 1⟩ hs7 (HS3.o _) ?_;intro v4 w4 h3 hg3;have hb3:=own_bel (HU3.o _) hg3 (HBB.o _) (Nat.le_refl _) (HS3.o _);have H4:Hid (Lw w4 w.heap.size v4 (putW p r k++[(⟨(p:Int)+1+(k:Int),0⟩:Wr)]++[(⟨(p:Int),(k:Int)⟩:Wr)])):=h3;have HB4:Hid (Below w.heap.size w w4):=hb3;clear h3 hg3 hb3) | fail)
    go_ret;exact ⟨v4,rfl,by rw [← HQ.o];exact H4.o,HB4.o⟩
   ·have HQ:Hid (putW p r k++[⟨(p:Int),(k:Int)⟩]=appW c p r):=app_no2 HN.o.2 (by rw [HN.o.1];omega);go_wp2_with (first | (refine wp_write rfl _ _ rfl w.heap.size wr.heap.size V (putW p r k) ⟨(p:Int),(k:Int)⟩ rfl rfl (HUA.o _) ⟨(Blk.new wr _ _).cell 0,(Blk.new wr _ _).cell 1⟩ hs6 (HSA.o _) ?_;intro v4 w4 h3 hg3;have hb3:=own_bel (HUA.o _) hg3 (HBA.o _) (Nat.le_refl _) (HSA.o _);have H4:Hid (Lw w4 w.heap.size v4 (putW p r k++[(⟨(p:Int),(k:Int)⟩:Wr)])):=h3;have HB4:Hid (Below w.heap.size w w4):=hb3;clear h3 hg3 hb3) | fail)
    go_ret;exact ⟨v4,rfl,by rw [← HQ.o];exact H4.o,HB4.o⟩
theorem nothing_done (v:Value) (w:World):Calls Tryz.prog 154 #[v] w fun e w'=>e = .returned (.tuple #[])∧w'=w:=by
 go_enter Tryz.func154,Tryz.ntmps154;go_wp2_with fail;go_end0;exact ⟨rfl,rfl⟩
theorem kappend:KAppend:=by
 intro w a n cap c b m cap2 r h hnil hcap hby hw h2 hnil2 hcap2 hby2 hw2;have hrl:=h2.1;by_cases hmay:1≤m∧m≤64
 ·have HE:Hid (Calls Tryz.prog 62 #[.slice a n cap,.func (.func 154) #[] #[]] w fun e w'=>EPost (fun _ W=>W=w) c e w'):=by
   refine each_any 154 #[] (fun _ W=>W=w) a n cap c w (fun k W hj=>by rw [hj];exact h) rfl hcap hw (fun _ _=>by kernel_rfl) ?_;intro k p m b o W hj hp hit hr h1 h2 h3;refine (nothing_done _ W).mono ?_;rintro e w' ⟨rfl,rfl⟩;exact ⟨rfl,hj⟩
  have HMY:Hid (RMay r):=⟨by omega,by omega⟩
  have HN:Hid (c.length=n∧r.length=m):=⟨h.1,hrl⟩
  have HL:Hid (∀ p:Nat,p≤2048→n≤2048→Calls Tryz.prog 155 #[.slice b m cap2,zI (p:Int),zI (n:Int)] w fun e w'=>∃ V,e = .returned V∧Lw w' w.heap.size V (appW c p r)∧Below w.heap.size w w'):=fun p hp hn=>laying_any b m cap2 r c p n w h2 hmay.1 hmay.2 hp hn h.1;obtain ⟨hm1,hm2⟩:=hmay;have d1:decide ((m:Int)<1)=false:=by simp;omega
  have d2:decide ((64:Int)<(m:Int))=false:=by simp;omega
  clear h hnil hcap hby hw h2 hnil2 hcap2 hby2 hw2 hrl;go_enter Tryz.func108,Tryz.ntmps108;go_wp2_with fail;refine HE.o.mono ?_;rintro e w1 ⟨x,f,k,rfl,hj,hi⟩;subst hj;have HI:Hid ((¬ May c∧x=0∧f=1)∨(May c∧lenAt c (repD c).2<0∧x=0∧f=3)∨(May c∧lenAt c (repD c).2=0∧repD c=itD c k∧x=((repD c).2:Int)∧f=0)):=hi;clear hi HE d1 d2;by_cases hf:f=0
  ·obtain ⟨hmy,hl0,hx⟩:May c∧lenAt c (repD c).2=0∧x=((repD c).2:Int):=by
    rcases HI.o with ⟨_,_,e⟩ | ⟨_,_,_,e⟩ | ⟨q1,q2,_,q4,_⟩
    ·rw [hf] at e;exact absurd e (by decide)
    ·rw [hf] at e;exact absurd e (by decide)
    ·exact ⟨q1,q2,q4⟩
   have HPB:Hid ((repD c).2≤n):=by show _≤_;rw [← HN.o.1];exact rep_bound c
   have HFU:Hid (n≤(repD c).2+m→AppIs c r [] 16):=fun hh=> .inr (.inr (.inr (.inl ⟨HMY.o,hmy,hl0,by rw [HN.o.1,HN.o.2];exact hh,rfl,rfl⟩)));have HOK:Hid ((repD c).2+m<n→AppIs c r (appW c (repD c).2 r) 0):=fun hh=> .inr (.inr (.inr (.inr ⟨HMY.o,hmy,hl0,by rw [HN.o.1,HN.o.2];exact hh,rfl,rfl⟩)));have hn2:n≤2048:=by have:=hmy.2;rw [HN.o.1] at this;exact this
   subst hf;subst hx;clear HI hmy hl0 HMY;generalize (repD c).2=p at *;have hpn:=HPB.o;clear HPB;by_cases hfu:n≤p+m
   ·have HA:Hid (AppIs c r [] 16):=HFU.o hfu;have e1:decide ((n:Int)<(p:Int)+1+(m:Int))=true:=by simp;omega
    clear HFU HOK HL;go_wp2_with fail;go_ret2;exact ⟨none,0,0,[],16,rfl,RowW.nil _ _,(fun x hx=>by cases hx),Nat.le_refl _,Nat.zero_le _,HA.o,Below.refl _ _⟩
   ·have HA:Hid (AppIs c r (appW c p r) 0):=HOK.o (by omega);have e1:decide ((n:Int)<(p:Int)+1+(m:Int))=false:=by simp;omega
    have HL1:=HL.o p (by omega) hn2;have HLY:Hid (Calls Tryz.prog 155 #[.slice b m cap2,zI (p:Int),zI (n:Int)] w1 fun e w'=>∃ V,e = .returned V∧Lw w' w1.heap.size V (appW c p r)∧Below w1.heap.size w1 w'):=HL1;clear HFU HOK HL HL1;go_wp2_with fail;refine HLY.o.mono ?_;rintro e w2 ⟨V,rfl,hlw,hb⟩;obtain ⟨va,vc,rfl,hrow,_,hle,_⟩:=hlw.row
    have HNW:Hid (∀ x,va=some x→w1.heap.size≤x.block):=fun x hx=>by
     subst hx;exact (World.ownsRow.lt hlw x.block rfl).1
    have HRW:Hid (RowW w2 va (appW c p r).length (appW c p r)):=hrow;have HLE:Hid ((appW c p r).length≤vc):=hle;have HFW:Hid ((appW c p r).length≤100000):=Nat.le_trans (app_few HA.o) (by decide);have HB2:Hid (Below w1.heap.size w1 w2):=hb;clear hlw hb hrow hle HLY;generalize appW c p r=ls at *;generalize hzl:ls.length=zl at *;clear hzl;go_wp2_with fail;go_ret2;exact ⟨va,_,vc,ls,0,rfl,HRW.o,HNW.o,HLE.o,HFW.o,HA.o,HB2.o⟩
  ·have HA:Hid (AppIs c r [] f):=by
    rcases HI.o with ⟨q1,_,rfl⟩ | ⟨q1,q2,_,rfl⟩ | ⟨_,_,_,_,e⟩
    ·exact .inr (.inl ⟨HMY.o,q1,rfl,rfl⟩)
    ·exact .inr (.inr (.inl ⟨HMY.o,q1,q2,rfl,rfl⟩))
    ·exact absurd e hf
   have hne:(f != 0)=true:=by simpa using hf
   clear HI hf HL;go_wp2_with fail;go_ret2;exact ⟨none,0,0,[],f,rfl,RowW.nil _ _,(fun x hx=>by cases hx),Nat.le_refl _,Nat.zero_le _,HA.o,Below.refl _ _⟩
 ·have HA:Hid (AppIs c r [] 1):= .inl ⟨fun h=>hmay ⟨by rw [← hrl];exact h.1,by rw [← hrl];exact h.2⟩,rfl,rfl⟩;clear h hnil hcap hby hw h2 hnil2 hcap2 hby2 hw2 hrl;go_enter Tryz.func108,Tryz.ntmps108;by_cases h1:1≤m
  ·have d1:decide ((m:Int)<1)=false:=by simp;omega
   have d2:decide ((64:Int)<(m:Int))=true:=by simp;omega
   go_wp2_with fail;go_ret2;exact ⟨none,0,0,[],1,rfl,RowW.nil _ _,(fun x hx=>by cases hx),Nat.le_refl _,Nat.zero_le _,HA.o,Below.refl _ _⟩
  ·have d1:decide ((m:Int)<1)=true:=by simp;omega
   go_wp2_with fail;go_ret2;exact ⟨none,0,0,[],1,rfl,RowW.nil _ _,(fun x hx=>by cases hx),Nat.le_refl _,Nat.zero_le _,HA.o,Below.refl _ _⟩
end disk
end Go.Proofs.YtnpblpbohcegoaaGreatDoor
