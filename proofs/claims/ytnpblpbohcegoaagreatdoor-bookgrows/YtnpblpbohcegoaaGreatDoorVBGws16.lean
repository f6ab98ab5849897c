import Derived.Test.YtnpblpbohcegoaaGreatDoorVBGws12
import Derived.Test.YtnpblpbohcegoaaGreatDoorVBGws13
import Derived.Test.YtnpblpbohcegoaaGreatDoorVBGws15
set_option linter.unusedVariables false
set_option linter.unusedSimpArgs false
set_option maxHeartbeats 4000000
set_option maxRecDepth 100000
namespace Go.Proofs.YtnpblpbohcegoaaGreatDoor
namespace vnd
open book (Ev ev0 Cm cm0 So so0 Sees)
open acc (Ac Tm Bi)
open ora (Pr)
open cell (Wr RowU)
open rcp (Rc rc0)
open Go.RowKit
def LoadPost (w:World) (t:Tm) (c:List Int) (e:Ending) (w':World):Prop:=∃ p m cap xs bk f,e = .returned (.tuple #[.agg #[.slice p m cap],zI f])∧LoadIs t c bk f∧Sees w' p m xs bk∧m≤120∧Below w.heap.size w w'
structure Dk (w:World) (a:Option Addr) (n cap:Nat) (c:List Int):Prop where
 row:RowU w a n c
 nil:a=none→cap=0
 room:n≤cap
 bytes:n*4≤140737488351232
 wd:∀ x∈c,0≤x∧x<4294967296
theorem Dk.below {w w':World} {a:Option Addr} {n cap:Nat} {c:List Int} (h:Dk w a n cap c) (hb:Below w.heap.size w w'):Dk w' a n cap c:=⟨h.row.below hb,h.nil,h.room,h.bytes,h.wd⟩
open cell (RowW)
def WrGot (w:World) (R:List Wr→Int→Prop) (e:Ending) (w':World):Prop:=∃ p m cp ls f,e = .returned (.tuple #[.slice p m cp,zI f])∧R ls f∧RowW w' p m ls∧(∀ x,p=some x→w.heap.size≤x.block)∧m≤cp∧m≤100000∧Below w.heap.size w w'
end vnd
namespace book
open Go.RowKit
open acc (Ac Tm Bi APost BPost OweIs SellIs GrantIs RekeyIs)
theorem acc_upd {w W:World} {g:Nat} {cs:Array Value} {ty:TypeId} {a:Option Addr} {n cap:Nat} {zs:List tar.Du} (h:tar.Came w a n cap zs) (hU:Upd w W g cs ty) (hne:0<n→∀ x,a=some x→x.block≠g):tar.Came W a n cap zs:=by
 refine ⟨⟨h.row.1,?_⟩,h.nil,h.room,h.bytes,h.wf⟩;rcases h.row.2 with h0 | ⟨b,off,rfl,hc⟩
 ·exact .inl h0
 ·refine .inr ⟨b,off,rfl,fun i hi=>?_⟩;have h1:=hc i hi;have hb:b≠g:=hne (by omega) ⟨b,off,none⟩ rfl;rw [hU.cell ⟨b,off+i*2,none⟩ hb rfl,hU.cell ⟨b,off+i*2+1,none⟩ hb rfl];exact h1
end book
namespace deb
open tar (Du du0 Came TwoPost)
open Go.RowKit
def KdRec:Prop:=∀ (W:World) (a:Option Addr) (len cap:Nat) (ls:List Du) (t bp:Int),Came W a len cap ls→(Lit.int .i64 t).wf=true→(Lit.int .i64 bp).wf=true→Calls Tryz.prog 164 #[.slice a len cap,zI t,zI bp] W fun e w'=>RecPost W ls t bp e w'
open tar (RowD Ld ErrPost PairT)
theorem krec:KdRec:=by
 intro w a len cap ls t bp hcame ht0 hb0;have hr:=hcame.row;have HSH:Hid (Calls Tryz.prog 191 #[.slice a len cap,zI t,zI bp] w fun e w'=>SharePost ls t bp w e w'):=pshare a len cap ls t bp w hr hcame.most;have HROW0:Hid (RowD w a len ls):=hr;clear hcame hr ht0 hb0;go_enter Tryz.func164,Tryz.ntmps164;go_wp2_with fail;refine HSH.o.mono ?_;rintro e w1 ⟨s,f,rfl,hf,hb1⟩;have HB1:Hid (Below w.heap.size w w1):=hb1;clear hb1 HSH;rcases hf with ⟨hm,hf,rfl⟩ | ⟨hm,⟨ht,hse,hg⟩ | ⟨ht,rfl,rfl⟩⟩
 ·have hne:(f != 0)=true:=by simpa using fun h=>hm (hf.ok.1 h)
  have HN:Hid (¬ Mays ls):=hm;have HF:Hid (FaultIs ls f):=hf;clear hf hm;go_wp2_with fail;go_ret3;exact ⟨none,0,0,[],0,f,rfl,.inl ⟨HN.o,HF.o,rfl,rfl⟩,fresh_nil _ _,HB1.o⟩
 ·subst hg;have HT:Hid (TMay t bp):=ht;have hsb:=share_bd ht;rw [← hse] at hsb;have HSE:Hid (s=t*bp / 10000):=hse;have HM:Hid (Mays ls):=hm;have HROW:Hid (RowD w1 a len ls):=HROW0.o.below HB1.o;have HLEN:Hid (ls.length=len):=HROW.o.1;have hl8:len≤8:=by have:=hm.1;have:=HLEN.o;omega
  clear ht hse hm HROW0;go_wp2_with fail;go_loopw [11,12,29] (fun u v x wr=>∃ (k:Nat) (V:Value),k≤len∧x=zI (k:Int)∧v=zI (max 0 (s - sumK ls k))∧V=u∧Ld 70 wr w1.heap.size V (recK ls s k)∧Below w1.heap.size w1 wr) (fun _ _ x _=>len - (intOf x).toNat)
  case atStart=>exact ⟨0,_,Nat.zero_le _,rfl,by show _=Value.int .i64 (max 0 (s - 0));rw [show max 0 (s - 0)=s by omega],rfl,tar.Ld.zero _ _ _,Below.refl _ _⟩
  case round=>
   obtain ⟨k,V,hk,rfl,rfl,hV,hu,hb⟩:=hrel;subst hV;have HBW:Hid (Below w1.heap.size w1 wr):=hb;have HU:Hid (Ld 70 wr w1.heap.size V (recK ls s k)):=hu;have hsk:=sumK_bd HM.o k (by rw [HLEN.o];exact hk);by_cases hlt:k<len
   ·have hdl:decide ((k:Int)<(len:Int))=true:=by simp;omega
    obtain ⟨b,off,rfl,hbl,hc⟩:=HROW.o.at (by omega);have c0:wr.cell? ⟨b,off+k*2,none⟩=some (zI (ls.getD k du0).a):=(hb.cell (p:=⟨b,off+k*2,none⟩) hbl).trans (hc k hlt).1;have c1:wr.cell? ⟨b,off+k*2+1,none⟩=some (zI (ls.getD k du0).b):=(hb.cell (p:=⟨b,off+k*2+1,none⟩) hbl).trans (hc k hlt).2;have ho:=HM.o.2 k (by rw [HLEN.o];exact hlt);have ho1:=ho.1.1;have ho2:=ho.1.2;have HN:Hid (sumK ls k+(ls.getD k du0).a=sumK ls (k+1)):=(sumK_next ls k).symm;have HY:Hid (0<left (ls.getD k du0).a (sumK ls k+(ls.getD k du0).a) s→recK ls s (k+1)=recK ls s k++[⟨left (ls.getD k du0).a (sumK ls k+(ls.getD k du0).a) s,(ls.getD k du0).b⟩]):=recK_yes ls s k;have HZ:Hid (¬ 0<left (ls.getD k du0).a (sumK ls k+(ls.getD k du0).a) s→recK ls s (k+1)=recK ls s k):=recK_no ls s k;have hzl:(recK ls s k).length≤1000000:=by have:=recK_len ls s k;omega
    clear hc hb hu ho;generalize recK ls s k=Z at *;generalize hq1:sumK ls k=q at *;generalize (ls.getD k du0).a=x at *;generalize (ls.getD k du0).b=y at *;have HBX:Hid (Blk (wr.alloc (.cells #[zI x,zI y] 70)) wr.heap.size #[zI x,zI y] 70):=Blk.new wr _ _;generalize hR:max 0 (s - q)=R at *;have hR0:0≤R:=by omega
    have hR1:R≤100000000:=by omega
    have hmin:=tar.run_min R x _ rfl;generalize hp:min R x=p at *;have hp0:0≤p:=by omega
    have hp1:p≤x:=by omega
    have hp2:p≤R:=by omega
    by_cases hpos:0<x - p
    ·
     have HRN:Hid (R - p=max 0 (s - sumK ls (k+1))):=by show _=_;rw [← HN.o];omega
     have hd2:decide (0<x - p)=true:=decide_eq_true hpos;have hle:left x (q+x) s=x - p:=by unfold left;omega
     rw [hle] at HY;have HZ2:Hid (recK ls s (k+1)=Z++[⟨x - p,y⟩]):=HY.o hpos;clear HY HZ hle;clear hq1 hR hp hsk HN
     go_wp2_with (first
      | (refine wp_let1 rfl 3 _ _ rfl (wr.heap.size) 0 rfl .i64 (x - p) rfl (by kernel_rfl) #[zI x,zI y] 70 HBX.o (by simp) ?_)
      | fail)
     intro W1 hU1;have HX1:Hid (Blk W1 wr.heap.size #[zI (x - p),zI y] 70):=hU1.blk;have hbw:Below wr.heap.size wr W1:=hU1.bel _ _ (Nat.le_refl _) ((Below.refl _ _).alloc (Nat.le_refl _) _);have HBW1:=shB HBW hbw;have HU1:Hid (Ld 70 W1 w1.heap.size V Z):=HU.o.next hbw;have d0:W1.cell? ⟨wr.heap.size,0,none⟩=some (zI (x - p)):=HX1.o.cell 0;have d1:W1.cell? ⟨wr.heap.size,1,none⟩=some (zI y):=HX1.o.cell 1;clear hU1 hbw HBX HBW HU c0 c1;have HBA:Hid (Below w1.heap.size w1 (W1.alloc (.cells #[zI (x - p),zI y] 70))):=HBW1.o.alloc HBW1.o.size _;have HZA:Hid (Ld 70 (W1.alloc (.cells #[zI (x - p),zI y] 70)) w1.heap.size V Z):=HU1.o.alloc _;have HCA:Hid ((W1.alloc (.cells #[zI (x - p),zI y] 70)).cell? ⟨W1.heap.size,0,none⟩=some (zI (x - p))∧(W1.alloc (.cells #[zI (x - p),zI y] 70)).cell? ⟨W1.heap.size,1,none⟩=some (zI y)):=⟨(Blk.new W1 _ _).cell 0,(Blk.new W1 _ _).cell 1⟩
     go_wp2_with (first
      | (at_builtin;refine tar.wp_pair debtT rfl _ _ rfl w1.heap.size (W1.heap.size) V Z ⟨x - p,y⟩ rfl rfl HZA.o HCA.o hzl HBA.o.size ?_)
      | fail)
     intro v3 w3 h3 hg3;have HB3:Hid (Below w1.heap.size w1 w3):=tar.own_bel HZA.o hg3 HBA.o (Nat.le_refl _) HBA.o.size;have H3:Hid (Ld 70 w3 w1.heap.size v3 (Z++[⟨x - p,y⟩])):=h3;clear h3 hg3 HZA HCA HBA HU1 d0 d1;go_wp2_with fail;go_roundw
     case rel=>exact ⟨k+1,v3,by omega,by go_num,by rw [← HRN.o],by first | rfl | trivial,by rw [HZ2.o];exact H3.o,HB3.o⟩
     case measure=>simp [intOf];omega
    ·
     have HRN:Hid (R - p=max 0 (s - sumK ls (k+1))):=by show _=_;rw [← HN.o];omega
     have hd2:decide (0<x - p)=false:=decide_eq_false hpos;have hle:¬ 0<left x (q+x) s:=by unfold left;omega
     have HZ2:Hid (recK ls s (k+1)=Z):=HZ.o hle;clear HY HZ hle;clear hq1 hR hp hsk HN
     go_wp2_with (first
      | (refine wp_let1 rfl 3 _ _ rfl (wr.heap.size) 0 rfl .i64 (x - p) rfl (by kernel_rfl) #[zI x,zI y] 70 HBX.o (by simp) ?_)
      | fail)
     intro W1 hU1;have HX1:Hid (Blk W1 wr.heap.size #[zI (x - p),zI y] 70):=hU1.blk;have hbw:Below wr.heap.size wr W1:=hU1.bel _ _ (Nat.le_refl _) ((Below.refl _ _).alloc (Nat.le_refl _) _);have HBW1:=shB HBW hbw;have HU1:Hid (Ld 70 W1 w1.heap.size V Z):=HU.o.next hbw;have d0:W1.cell? ⟨wr.heap.size,0,none⟩=some (zI (x - p)):=HX1.o.cell 0;have d1:W1.cell? ⟨wr.heap.size,1,none⟩=some (zI y):=HX1.o.cell 1;clear hU1 hbw HBX HBW HU c0 c1;go_wp2_with fail;go_roundw
     case rel=>exact ⟨k+1,V,by omega,by go_num,by rw [← HRN.o],by first | rfl | trivial,by rw [HZ2.o];exact HU1.o,HBW1.o⟩
     case measure=>simp [intOf];omega
   ·obtain rfl:k=len:=by omega
    have hdl:decide ((k:Int)<(k:Int))=false:=by simp
    have HV:Hid (sumK ls k=sumD ls):=by have:=sumK_all ls;rw [HLEN.o] at this;exact this
    have HRE:Hid (recK ls s k=recK ls (t*bp / 10000) ls.length):=by show _=_;rw [HLEN.o,HSE.o]
    have hmz:Mays (recK ls s k):=⟨Nat.le_trans (recK_len ls s k) hl8,fits_mem fun d hd=>(recK_ok HM.o s k (by rw [HLEN.o];exact Nat.le_refl _) d hd).1⟩
    obtain ⟨a3,cap3,hv3,hcm⟩:=ld_fresh hu hmz;subst hv3;have HCM:Hid (Fresh wr w.heap.size a3 (recK ls s k).length cap3 (recK ls s k)):=hcm.low HB1.o.size;have HB9:Hid (Below w.heap.size w wr):=HB1.o.trans (HBW.o.mono HB1.o.size);have HP:Hid (s - max 0 (s - sumK ls k)=min (t*bp / 10000) (sumD ls)):=by show _=_;rw [← HSE.o,← HV.o];omega
    clear hb hu hmz hcm HU;generalize (recK ls s k).length=len3 at *;generalize recK ls s k=Z at *;generalize hq:max 0 (s - sumK ls k)=q at *;have hq0:0≤q:=by omega
    have hq1:q≤s:=by omega
    clear hq hsk;go_wp2_with fail;go_ret3;exact ⟨a3,len3,cap3,Z,s - q,0,rfl,.inr (.inr ⟨HM.o,HT.o,rfl,HRE.o,HP.o⟩),HCM.o,HB9.o⟩
 ·have HM:Hid (Mays ls):=hm;have HT:Hid (¬ TMay t bp):=ht;clear ht hm;go_wp2_with fail;go_ret3;exact ⟨none,0,0,[],0,2,rfl,.inr (.inl ⟨HM.o,HT.o,rfl,rfl,rfl⟩),fresh_nil _ _,HB1.o⟩
end deb
namespace ora
open Go.RowKit
def Given (w:World) (l:List Pr) (e:Ending) (w':World):Prop:=
 Below w.heap.size w w'∧((May l∧∃ B,e = .returned (.tuple #[.map (some B),.bool true])∧Mp w' B l)∨(¬ May l∧e = .returned (.tuple #[.map none,.bool false])))
def Seen (l:List Pr) (k:Nat):Prop:=∀ i,i<k→(l.getD i pr0).may∧At l (l.getD i pr0).m (l.getD i pr0).r (l.getD i pr0).b i
structure Bg (w wr:World) (B:Nat) (a:Option Addr) (n cap:Nat) (l:List Pr) (k:Nat):Prop where
 bo:Bo w wr a n cap l
 mp:Mp wr B (l.take k)
 hB:w.heap.size≤B
theorem Bg.next {w wr w':World} {B:Nat} {a:Option Addr} {n cap:Nat} {l:List Pr} {k:Nat} (h:Bg w wr B a n cap l k) (hb:Below wr.heap.size wr w'):Bg w w' B a n cap l k:=⟨h.bo.next hb,h.mp.below hb,h.hB⟩
theorem Bg.alloc {w wr:World} {B:Nat} {a:Option Addr} {n cap:Nat} {l:List Pr} {k:Nat} (h:Bg w wr B a n cap l k) (o:Obj):Bg w (wr.alloc o) B a n cap l k:=h.next ((Below.refl _ _).alloc (Nat.le_refl _) _)
theorem Bg.drew {w wr:World} {B:Nat} {a:Option Addr} {n cap:Nat} {l:List Pr} {k:Nat} (h:Bg w wr B a n cap l k) (q:Nat):Bg w (wr.drewN q) B a n cap l k:=h.next (bel_drew (Below.refl _ _) q)
theorem rowP_oth {w W:World} {a:Option Addr} {n:Nat} {l:List Pr} {B:Nat} {l':List Pr} (h:RowP w a n l) (hM:Mp w B l') (ho:∀ G,G≠B→W.heap[G]?=w.heap[G]?):RowP W a n l:=by
 refine ⟨h.1,?_⟩;rcases h.2 with h0 | ⟨b,off,rfl,hc⟩
 ·exact .inl h0
 ·refine .inr ⟨b,off,rfl,fun i hi=>?_⟩;obtain ⟨h1,h2,h3,h4⟩:=hc i hi
  have hb:b≠B:=by
   rintro rfl;unfold Mp at hM;simp [World.cell?,hM] at h1
  have e:∀ o,W.cell? ⟨b,o,none⟩=w.cell? ⟨b,o,none⟩:=fun o=>by simp only [World.cell?,ho b hb]
  exact ⟨(e _).trans h1,(e _).trans h2,(e _).trans h3,(e _).trans h4⟩
theorem blk_oth {w W:World} {G B:Nat} {cs:Array Value} {t:TypeId} {l':List Pr} (h:Blk w G cs t) (hM:Mp w B l') (ho:∀ G,G≠B→W.heap[G]?=w.heap[G]?):Blk W G cs t:=by
 have hb:G≠B:=by
  rintro rfl;unfold Mp at hM;unfold Blk at h;rw [h] at hM;cases hM
 unfold Blk at *;rw [ho G hb];exact h
theorem Bg.put {w wr W:World} {B:Nat} {a:Option Addr} {n cap:Nat} {l:List Pr} {k:Nat} (h:Bg w wr B a n cap l k) (hk:k<l.length) (hM:Mp W B (l.take k++[⟨(l.getD k pr0).m,(l.getD k pr0).r,(l.getD k pr0).b,(l.getD k pr0).t⟩]))
  (ho:∀ G,G≠B→W.heap[G]?=wr.heap[G]?) (hb:∀ B0 w0,B0≤B→Below B0 w0 wr→Below B0 w0 W):Bg w W B a n cap l (k+1):=
 ⟨⟨blk_oth h.bo.box h.mp ho,rowP_oth h.bo.row h.mp ho,hb _ _ h.hB h.bo.bel⟩,by rw [take_nextP l k hk] at hM;exact hM,h.hB⟩
theorem seen_no {l:List Pr} {k:Nat} (hk:k<l.length) (hm:May l):look (l.take k) (l.getD k pr0).m (l.getD k pr0).r (l.getD k pr0).b=none:=(look_take (by omega)).2 (hm.each k hk).2.first
theorem seen_yes {l:List Pr} {k:Nat} (hk:k<l.length) (hs:Seen l k) (hl:look (l.take k) (l.getD k pr0).m (l.getD k pr0).r (l.getD k pr0).b=none) (hp:(Pr.mk (l.getD k pr0).m (l.getD k pr0).r (l.getD k pr0).b (l.getD k pr0).t).may):Seen l (k+1):=fun i hi=>by
 by_cases e:i=k
 ·subst e;exact ⟨hp,hk,⟨rfl,rfl,rfl⟩,(look_take (by omega)).1 hl⟩
 ·exact hs i (by omega)
theorem given_any (a:Option Addr) (n cap:Nat) (l:List Pr) (w:World) (hr:RowP w a n l) :
  Calls Tryz.prog 187 #[.agg #[.slice a n cap]] w fun e w'=>Given w l e w':=by
 have HB0:Hid (Bo w (w.alloc (.cells #[.slice a n cap] 39)) a n cap l):=Bo.new hr;have HL:Hid (l.length=n):=hr.1;clear hr;have c0:=HB0.o.box.cell 0;by_cases hn:n≤500
 ·have hgt':decide ((500:Int)<(n:Int))=false:=by simp;omega
  obtain ⟨B,hBe⟩:∃ B,B=w.heap.size+1:=⟨_,rfl⟩
  have hmk:∀ z:Int,(Instr.makeMap 275 (some (zI z))).run Tryz.prog (w.alloc (.cells #[.slice a n cap] 39)) = .ok (.map (some B)) ((w.alloc (.cells #[.slice a n cap] 39)).alloc (.map #[] 0)):=fun z=>by rw [run_mkMap,hBe];simp
  have HG0:Hid (Bg w ((w.alloc (.cells #[.slice a n cap] 39)).alloc (.map #[] 0)) B a n cap l 0):=⟨HB0.o.alloc _,by
   have:=Mp.new (w.alloc (.cells #[.slice a n cap] 39));rw [show (w.alloc (.cells #[.slice a n cap] 39)).heap.size=B by rw [hBe];simp] at this
   rw [List.take_zero];exact this,by omega⟩
  have d0:=HG0.o.bo.box.cell 0;clear hBe HB0;have HPM:Hid (∀ W m r b t,Calls Tryz.prog 188 #[.agg #[zI m,zI r,zI b,zI t]] W fun e w'=>Told W (Pr.mk m r b t).may e w'):=fun W m r b t=>within_any m r b t W;have HOF:Hid (∀ W m r b t,Calls Tryz.prog 189 #[.agg #[zI m,zI r,zI b,zI t]] W fun e w'=>e = .returned (.agg #[zI m,zI r,zI b])∧Below W.heap.size W w'):=fun W m r b t=>of_any m r b t W;go_enter Tryz.func187,Tryz.ntmps187;go_wp2_with fail;clear c0 d0 hmk hgt';generalize (w.alloc (.cells #[.slice a n cap] 39)).alloc (.map #[] 0)=W0 at *;go_loopw [20] (fun j wr=>∃ k:Nat,k≤n∧j=zI (k:Int)∧Hid (Seen l k)∧Bg w wr B a n cap l k) (fun j _=>n - (intOf j).toNat)
  case atStart=>exact ⟨0,Nat.zero_le _,rfl,fun i hi=>absurd hi (Nat.not_lt_zero _),HG0.o⟩
  case round=>
   obtain ⟨k,hk,rfl,HA,hbo⟩:=hrel;have HI:Hid (Bg w wr B a n cap l k):=hbo;clear hbo HG0;by_cases hlt:k<n
   ·obtain ⟨bl,off,rfl,_,hc⟩:=HI.o.bo.row.at (by omega);obtain ⟨f0,f1,f2,f3⟩:=hc k hlt;have hkl:k<l.length:=by rw [HL.o];exact hlt
    have HNO:Hid (look (l.take k) (l.getD k pr0).m (l.getD k pr0).r (l.getD k pr0).b≠none→¬ May l):=fun h hm=>h (seen_no hkl hm);have HN1:Hid (May l→(Pr.mk (l.getD k pr0).m (l.getD k pr0).r (l.getD k pr0).b (l.getD k pr0).t).may):=fun hm=>(hm.each k hkl).1;have HNX:Hid (look (l.take k) (l.getD k pr0).m (l.getD k pr0).r (l.getD k pr0).b=none→(Pr.mk (l.getD k pr0).m (l.getD k pr0).r (l.getD k pr0).b (l.getD k pr0).t).may→Seen l (k+1)):=fun h1 h2=>seen_yes hkl HA.o h1 h2;have HPUT:Hid (∀ v W,Bg w v B (some ⟨bl,off,none⟩) n cap l k→Mp W B (l.take k++[⟨(l.getD k pr0).m,(l.getD k pr0).r,(l.getD k pr0).b,(l.getD k pr0).t⟩])→(∀ G,G≠B→W.heap[G]?=v.heap[G]?)→(∀ B0 w0,B0≤B→Below B0 w0 v→Below B0 w0 W)→Bg w W B (some ⟨bl,off,none⟩) n cap l (k+1)):=fun v W h1 h2 h3 h4=>h1.put hkl h2 h3 h4;clear hc HA hkl;generalize (l.getD k pr0).m=pm at *;generalize (l.getD k pr0).r=prr at *;generalize (l.getD k pr0).b=pb at *;generalize (l.getD k pr0).t=pt at *;have hN:=Blk.new wr #[zI pm,zI prr,zI pb,zI pt] 279;have n0:=hN.cell 0;have n1:=hN.cell 1;have n2:=hN.cell 2;have n3:=hN.cell 3;have HNB:Hid (Blk (wr.alloc (.cells #[zI pm,zI prr,zI pb,zI pt] 279)) wr.heap.size #[zI pm,zI prr,zI pb,zI pt] 279):=hN;have HI2:Hid (Bg w (wr.alloc (.cells #[zI pm,zI prr,zI pb,zI pt] 279)) B (some ⟨bl,off,none⟩) n cap l k):=HI.o.alloc _;clear hN HI;go_wp2_with fail;refine (HOF.o _ _ _ _ _).mono ?_;rintro e w2 ⟨rfl,hb2⟩;have HI3:Hid (Bg w w2 B (some ⟨bl,off,none⟩) n cap l k):=HI2.o.next hb2;have HM:=shN HNB hb2;have m0:=HM.o.cell 0;have m1:=HM.o.cell 1;have m2:=HM.o.cell 2;have m3:=HM.o.cell 3;have hlk:=look_run HI3.o.mp pm prr pb;clear HNB hb2 n0 n1 n2 n3 HI2 f0 f1 f2 f3;generalize wr.heap.size=gn at *;cases hlo:look (l.take k) pm prr pb with
    | some x=>
     rw [hlo] at hlk;simp only [Option.getD_some,Option.isSome_some] at hlk;have HF:Hid (¬ May l):=HNO.o (by rw [hlo];exact fun h=>by cases h);clear hlo;go_wp2_with fail;go_ret2;exact ⟨HI3.o.bo.bel,.inr ⟨HF.o,rfl⟩⟩
    | none=>
     rw [hlo] at hlk;simp only [Option.getD_none,Option.isSome_none] at hlk;have HLO:Hid (look (l.take k) pm prr pb=none):=hlo;clear hlo;go_wp2_with fail;refine (HPM.o _ _ _ _ _).mono ?_;rintro e w3 ⟨rr,rfl,hrr,hb3⟩;have HI4:Hid (Bg w w3 B (some ⟨bl,off,none⟩) n cap l k):=HI3.o.next hb3;have HM3:=shN HM hb3;clear hlk m0 m1 m2 m3 HM HI3 hb3;cases rr with
     | false=>
      have HF:Hid (¬ May l):=fun hm=>by have:=hrr.2 (HN1.o hm);cases this
      clear hrr;go_wp2_with fail;go_ret2;exact ⟨HI4.o.bo.bel,.inr ⟨HF.o,rfl⟩⟩
     | true=>
      have HPY:Hid ((Pr.mk pm prr pb pt).may):=hrr.1 rfl;clear hrr;have K3:Hid (w3.drew.cell? ⟨gn,0,none⟩=some (zI pm)∧w3.drew.cell? ⟨gn,0+1,none⟩=some (zI prr)∧w3.drew.cell? ⟨gn,0+2,none⟩=some (zI pb)∧w3.drew.cell? ⟨gn,0+3,none⟩=some (zI pt)):=⟨HM3.o.cell 0,HM3.o.cell 1,HM3.o.cell 2,HM3.o.cell 3⟩
      have HI5:Hid (Bg w w3.drew B (some ⟨bl,off,none⟩) n cap l k):=HI4.o.drew 1;have HM5:Hid (Blk w3.drew gn #[zI pm,zI prr,zI pb,zI pt] 279):=HM3.o;go_wp2_with fail
      go_region_held_law (fun v=>v.cell? ⟨gn,0,none⟩=some (zI pm)∧v.cell? ⟨gn,0+1,none⟩=some (zI prr)∧v.cell? ⟨gn,0+2,none⟩=some (zI pb)∧v.cell? ⟨gn,0+3,none⟩=some (zI pt))
       (first | with_reducible exact K3.o | with_reducible exact K4.o | with_reducible exact K5.o)
       (first
        | (go_at_call 189;refine (HOF.o _ _ _ _ _).mono ?_;rintro e w4 ⟨rfl,hb4⟩
           have HI6:Hid (Bg w w4 B (some ⟨bl,off,none⟩) n cap l k):=HI5.o.next hb4;have HM6:=shN HM5 hb4;have K4:Hid (w4.cell? ⟨gn,0,none⟩=some (zI pm)∧w4.cell? ⟨gn,0+1,none⟩=some (zI prr)∧w4.cell? ⟨gn,0+2,none⟩=some (zI pb)∧w4.cell? ⟨gn,0+3,none⟩=some (zI pt)):=⟨HM6.o.cell 0,HM6.o.cell 1,HM6.o.cell 2,HM6.o.cell 3⟩
           obtain ⟨W5,hu5,hm5,ho5,hb5,hs5⟩:=upd_run HI6.o.mp pm prr pb pt HLO.o;have HI7:Hid (Bg w W5 B (some ⟨bl,off,none⟩) n cap l (k+1)):=HPUT.o _ _ HI6.o hm5 ho5 hb5;have hM7:=blk_oth HM6.o HI6.o.mp ho5;have K5:Hid (W5.cell? ⟨gn,0,none⟩=some (zI pm)∧W5.cell? ⟨gn,0+1,none⟩=some (zI prr)∧W5.cell? ⟨gn,0+2,none⟩=some (zI pb)∧W5.cell? ⟨gn,0+3,none⟩=some (zI pt)):=⟨hM7.cell 0,hM7.cell 1,hM7.cell 2,hM7.cell 3⟩
           clear hm5 ho5 hb5 hs5 hM7 hb4))
      all_goals go_wp2_with fail
      all_goals go_roundw
      case rel=>exact ⟨k+1,by omega,by go_num,HNX.o HLO.o HPY.o,HI7.o⟩
      case measure=>simp [intOf];omega
   ·obtain rfl:k=n:=by omega
    have hlt':decide ((k:Int)<(k:Int))=false:=by simp
    have HF:Hid (May l):=⟨by rw [HL.o];exact hn,fun i hi=>HA.o i (by rw [← HL.o];exact hi)⟩
    have HM:Hid (Mp wr B l):=by have:=HI.o.mp;rw [List.take_of_length_le (by rw [HL.o];exact Nat.le_refl _)] at this;exact this
    clear hlt HA;go_wp2_with fail;go_ret2;exact ⟨HI.o.bo.bel,.inl ⟨HF.o,B,rfl,HM.o⟩⟩
 ·have hgt':decide ((500:Int)<(n:Int))=true:=by simp;omega
  have HF:Hid (¬ May l):=fun h=>by have:=h.few;rw [HL.o] at this;omega
  clear hn HL;go_enter Tryz.func187,Tryz.ntmps187;go_wp2_with fail;go_ret2;exact ⟨HB0.o.bel,.inr ⟨HF.o,rfl⟩⟩
end ora
end Go.Proofs.YtnpblpbohcegoaaGreatDoor
