import Derived.Test.YtoepgdhiepedeaaGreatDoorVVGts9
import Derived.Test.YtoepgdhiepedeaaGreatDoorVVGts10
import Derived.Test.YtoepgdhiepedeaaGreatDoorVVGts13
set_option linter.unusedVariables false
set_option linter.unusedSimpArgs false
set_option maxHeartbeats 4000000
set_option maxRecDepth 100000
namespace Go.Proofs.YtoepgdhiepedeaaGreatDoor
namespace book
open Go.RowKit
open acc (Ac Tm Bi APost BPost OweIs SellIs GrantIs RekeyIs)
def Small(bk:List Cm)(k:Nat):Prop:=bk.length≤k∧∀c∈bk,c.so.length≤k∧0≤c.a.rv∧c.a.rv≤15
theorem Small.zero:Small [] 0:=⟨zc,λc a=>by cases a⟩
theorem owe_rv{a b:Ac}{d:tar.Du}(h:OweIs a d b 0)(hr:0≤a.rv∧a.rv≤15):0≤b.rv∧b.rv≤15:=by
 rcases h with⟨_,_,e⟩|⟨_,_,_,e⟩|⟨_,_,_,_,e⟩|⟨_,_,_,rfl,_⟩
 ·cases e
 ·cases e
 ·cases e
 ·exact hr
variable{t:Tm}{v:Ev}
theorem tells_rv{c:Cm}{b:Ac}{l:Bi}(h:Tells t c v b l 0)(hr:0≤c.a.rv∧c.a.rv≤15):0≤b.rv∧b.rv≤15:=by
 rcases h with⟨_,h⟩|⟨_,h⟩|⟨_,h⟩
 ·rcases h with⟨p,rfl,_⟩|⟨_,_,e,_⟩|⟨_,_,_,e,_⟩|⟨_,_,_,_,u,_,rfl,_⟩
  ·exact⟨Int.le_refl _,by show (0:Int)≤15;decide⟩
  ·cases e
  ·cases e
  ·exact hr
 ·rcases h with⟨p,rfl,_⟩|⟨_,_,e,_⟩|⟨_,_,_,e,_⟩|⟨_,_,_,_,e,_⟩|⟨_,_,_,_,_,rfl,_⟩
  ·exact⟨Int.le_refl _,by show (0:Int)≤15;decide⟩
  ·cases e
  ·cases e
  ·cases e
  ·exact hr
 ·rcases h with⟨_,_,_,e⟩|⟨_,_,_,_,e⟩|⟨_,_,_,_,_,e⟩|⟨_,q,_,rfl,_,_⟩
  ·cases e
  ·cases e
  ·cases e
  ·exact⟨by show 0≤c.a.rv+1;omega,by show c.a.rv+1≤15;omega⟩
theorem hap_small{c c':Cm}{k:Nat}(h:HapIs t c v c' 0)(hs:c.so.length≤k∧0≤c.a.rv∧c.a.rv≤15):c'.so.length≤k+1∧0≤c'.a.rv∧c'.a.rv≤15:=by
 rcases h with⟨_,b,q,r⟩|⟨_,b,l,e,q,r⟩
 ·rw[r rfl];exact⟨by show c.so.length≤k+1;omega,owe_rv q hs.2⟩
 ·rcases r with⟨x,y⟩|⟨_,_,y⟩|⟨x,_,_,rfl⟩
  ·exact absurd y.symm x
  ·cases y
  ·subst x;refine⟨?_,tells_rv q hs.2⟩;show (c.so++[_]).length≤k+1;rw[List.length_append];exact Nat.succ_le_succ hs.1
theorem step_small{bk bk':List Cm}{k:Nat}(h:StepIs t bk v bk' 0)(hs:Small bk k):Small bk' (k+1):=by
 rcases h with⟨_,e⟩|⟨_,_,_,e⟩|⟨_,_,_,_,rfl⟩|⟨_,_,_,e⟩|⟨_,_,j,g,hj,d,b⟩
 ·cases e
 ·cases e
 ·refine⟨by rw[List.length_append];exact Nat.succ_le_succ hs.1,λc a=>?_⟩;rcases List.mem_append.1 a with h|h
  ·have:=hs.2 c h;omega
  ·rw[List.mem_singleton.1 h];exact⟨Nat.zero_le _,Int.le_refl _,by show (0:Int)≤15;decide⟩
 ·cases e
 ·rw[b rfl]
  have f:bk.getD j cm0∈bk:=by
   have:bk.getD j cm0=bk[j]'hj.1:=by simp[List.getD,List.getElem?_eq_getElem hj.1]
   rw[this];exact List.getElem_mem _
  refine⟨by rw[List.length_set];have:=hs.1;omega,λc a=>?_⟩;rcases List.mem_or_eq_of_mem_set a with h|rfl
  ·have:=hs.2 c h;omega
  ·exact hap_small d (hs.2 _ f)
end book
namespace book
open Go.RowKit
variable{w w':World}{base:Nat}{xs:List Cu}{bk:List Cm}{own:Option Nat}{V:Value}{x:Cu}{c:Cm}
theorem rowD_grown{a:Option Addr}{n:Nat}{zs:List tar.Du}(h:tar.RowD w a n zs)(hg:w.grownBy w' own)(hne:0<n→∀x,a=some x→some x.block≠own):tar.RowD w' a n zs:=by
 refine⟨h.1,?_⟩;rcases h.2 with f|⟨b,c,rfl,j⟩
 ·exact .inl f
 ·refine .inr ⟨b,c,rfl,λi k=>?_⟩;have d:=j i k;have g:=hg.block b (World.block_lt_of_cell? w ⟨b,c+i*2,none⟩ d.1) (hne (by omega) _ rfl);have e:∀o,w'.cell? ⟨b,o,none⟩=w.cell? ⟨b,o,none⟩:=λo=>by simp[World.cell?,g]
  rw[e,e];exact d
theorem came_grown{a:Option Addr}{n cap:Nat}{zs:List tar.Du}(h:tar.Came w a n cap zs)(hg:w.grownBy w' own)(hne:0<n→∀x,a=some x→some x.block≠own):tar.Came w' a n cap zs:=⟨rowD_grown h.row hg hne,h.nil,h.room,h.bytes,h.wf⟩
def Cu.sold(x:Cu):Value:=.slice x.sp x.sn x.sc
def Cu.v(x:Cu):Value:=.agg x.cs.toArray
def Nums(x:Cu)(a:acc.Ac):Prop:=x.me=a.me∧x.rv=a.rv∧x.nx=a.nx∧x.mo=a.mo∧x.bo=a.bo∧x.fr=a.fr
structure Has (w:World) (base:Nat) (x:Cu) (c:Cm):Prop where
 num:Nums x c.a
 ds:deb.Fresh w base x.dp x.dn x.dc c.a.ds
 so:Lo w base x.sold c.so
def Apart(x y:Cu):Prop:=(∀g,x.sold.ownBlock=some g→y.sold.ownBlock≠some g)∧(∀g,x.sold.ownBlock=some g→0<y.dn→∀p,y.dp=some p→p.block≠g)∧(∀g,y.sold.ownBlock=some g→0<x.dn→∀p,x.dp=some p→p.block≠g)
theorem Apart.symm{x y:Cu}(h:Apart x y):Apart y x:=⟨λg a b=>h.1 g b a,h.2.2,h.2.1⟩
def Off(x:Cu)(own:Option Nat):Prop:=(∀g,x.sold.ownBlock=some g→own≠some g)∧(0<x.dn→∀p,x.dp=some p→some p.block≠own)
theorem Has.next(h:Has w base x c)(hb:zB w w'):Has w' base x c:=⟨h.num,h.ds.below hb,h.so.next hb⟩
theorem Has.kept(h:Has w base x c)(hg:w.grownBy w' own)(ho:Off x own):Has w' base x c:=⟨h.num,⟨came_grown h.ds.came hg ho.2,h.ds.new⟩,h.so.kept hg ho.1⟩
structure Holds (w:World) (base:Nat) (V:Value) (xs:List Cu) (bk:List Cm):Prop where
 row:Lc w base V xs
 len:xs.length=bk.length
 has:∀i,i<xs.length→Has w base (xs.getD i cu0) (bk.getD i cm0)
 off:∀i,i<xs.length→Off (xs.getD i cu0) V.ownBlock
 self:∀i,i<xs.length→∀g,(xs.getD i cu0).sold.ownBlock=some g→0<(xs.getD i cu0).dn→∀p,(xs.getD i cu0).dp=some p→p.block≠g
 apart:∀i j,i<xs.length→j<xs.length→i≠j→Apart (xs.getD i cu0) (xs.getD j cu0)
theorem Holds.zero(w:World)(base:Nat):Holds w base (zS) [] []:=⟨Lc.zero _ _,rfl,(λi a=>by cases a),(λi a=>by cases a),(λi a=>by cases a),(λi j a=>by cases a)⟩
theorem Holds.next(h:Holds w base V xs bk)(hb:zB w w'):Holds w' base V xs bk:=⟨h.row.next hb,h.len,λi a=>(h.has i a).next hb,h.off,h.self,h.apart⟩
theorem getD_snoc{α:Type}(l:List α)(x d:α)(i:Nat)(hi:i<l.length+1):(l++[x]).getD i d=if i<l.length then l.getD i d else x:=by
 by_cases h:i<l.length
 ·rw[if_pos h];simp[List.getD,List.getElem?_append_left h]
 ·have:i=l.length:=by omega
  subst this;rw[if_neg h];simp[List.getD]
theorem Holds.snoc{V V':Value}(h:Holds w base V xs bk)(hx:Has w base x c)(hxs:x.sold.ownBlock=none)(hxd:x.dn=0)
  (hr:Lc w' base V' (xs++[x])) (hg:w.grownBy w' V.ownBlock) (ho:V'.ownBlock=V.ownBlock∨V'.ownBlock=some w.heap.size):Holds w' base V' (xs++[x]) (bk++[c]):=by
 have n:∀y:Cu,Off y V.ownBlock→(∀g,y.sold.ownBlock=some g→g<w.heap.size)→(0<y.dn→∀p,y.dp=some p→p.block<w.heap.size)→Off y V'.ownBlock:=λy k r D=>by
  rcases ho with e|e
  ·rw[e];exact k
  ·rw[e];exact⟨λg t q=>(by have:=r g t;have:=Option.some.inj q;omega),λl p z q=>(by have:=D l p z;have:=Option.some.inj q;omega)⟩
 have A:∀i,i<xs.length→∀g,(xs.getD i cu0).sold.ownBlock=some g→g<w.heap.size:=λi d g a=>(World.ownsRow.lt (h.has i d).so g a).2
 have B:∀i,i<xs.length→0<(xs.getD i cu0).dn→∀p,(xs.getD i cu0).dp=some p→p.block<w.heap.size:=λi d l p z=>by
  obtain⟨b,F,e,E,_⟩:=(h.has i d).ds.came.row.at l;rw[z] at e;rw[Option.some.inj e];exact E
 have o:Off x V.ownBlock:=⟨λg a=>(by rw[hxs] at a;cases a),λl=>by omega⟩
 have m:∀y:Cu,Apart y x:=λy=>⟨λg k r=>(by rw[hxs] at r;cases r),λg k l=>(by omega),λg k=>(by rw[hxs] at k;cases k)⟩;have f:Off x V'.ownBlock:=⟨λg a=>(by rw[hxs] at a;cases a),λl=>by omega⟩
 refine⟨hr,by rw[List.length_append,List.length_append,h.len];rfl,λi d=>?_,λi d=>?_,λi d=>?_,λi j d C u=>?_⟩
 all_goals simp only[List.length_append,List.length_cons,List.length_nil] at d
 ·rw[getD_snoc xs x cu0 i d,getD_snoc bk c cm0 i (by rw[← h.len];exact d)];by_cases q:i<xs.length
  ·rw[if_pos q,if_pos (by rw[← h.len];exact q)];exact(h.has i q).kept hg (h.off i q)
  ·rw[if_neg q,if_neg (by rw[← h.len];exact q)];exact hx.kept hg o
 ·rw[getD_snoc xs x cu0 i d];by_cases q:i<xs.length
  ·rw[if_pos q];exact n _ (h.off i q) (A i q) (B i q)
  ·rw[if_neg q];exact f
 ·rw[getD_snoc xs x cu0 i d];by_cases q:i<xs.length
  ·rw[if_pos q];exact h.self i q
  ·rw[if_neg q];intro g a;rw[hxs] at a;cases a
 ·simp only[List.length_append,List.length_cons,List.length_nil] at C;rw[getD_snoc xs x cu0 i d,getD_snoc xs x cu0 j C];by_cases q:i<xs.length<;>by_cases s:j<xs.length
  ·rw[if_pos q,if_pos s];exact h.apart i j q s u
  ·rw[if_pos q,if_neg s];exact m _
  ·rw[if_neg q,if_pos s];exact(m _).symm
  ·omega
theorem getD_put{α:Type}(l:List α)(x d:α)(k i:Nat)(hk:k<l.length):(l.set k x).getD i d=if i=k then x else l.getD i d:=by
 by_cases h:i=k
 ·subst h;rw[if_pos rfl];simp[List.getD,hk]
 ·rw[if_neg h];simp[List.getD,List.getElem?_set_ne (Ne.symm h)]
structure Turned (w w':World) (base:Nat) (x x':Cu) (c':Cm):Prop where
 grown:w.grownBy w' x.sold.ownBlock
 has:Has w' base x' c'
 own:∀g,x'.sold.ownBlock=some g→x.sold.ownBlock=some g∨w.heap.size≤g
 new:0<x'.dn→∀p,x'.dp=some p→w.heap.size≤p.block
 self:∀g,x'.sold.ownBlock=some g→0<x'.dn→∀p,x'.dp=some p→p.block≠g
theorem Holds.put{w w' w4:World}{k:Nat}{x':Cu}{c':Cm}(h:Holds w base V xs bk)(hk:k<xs.length)(ht:Turned w w' base (xs.getD k cu0) x' c')
  (hr:Lc w4 base V (xs.set k x')) (hg:w'.grownBy w4 V.ownBlock):Holds w4 base V (xs.set k x') (bk.set k c'):=by
 have A:k<bk.length:=by rw[← h.len];exact hk
 have r:∀i,i<xs.length→∀g,(xs.getD i cu0).sold.ownBlock=some g→g<w.heap.size:=λi a g c=>(World.ownsRow.lt (h.has i a).so g c).2
 have B:∀i,i<xs.length→0<(xs.getD i cu0).dn→∀p,(xs.getD i cu0).dp=some p→p.block<w.heap.size:=λi a d p f=>by
  obtain⟨b,E,e,D,_⟩:=(h.has i a).ds.came.row.at d;rw[f] at e;rw[Option.some.inj e];exact D
 have s:∀g,V.ownBlock=some g→g<w.heap.size:=λg c=>(World.ownsRow.lt h.row g c).2
 have m:Off x' V.ownBlock:=⟨fun g c q=>by
  rcases ht.own g c with e|e
  ·exact(h.off k hk).1 g e q
  ·have:=s g q;omega,λd p f q=>by
  have l:=ht.new d p f;have u:=s p.block q.symm
  omega⟩
 have n:∀i,i<xs.length→i≠k→Apart (xs.getD i cu0) x':=λi a o=>by
  refine⟨λg l u=>?_,λg l d p f q=>?_,λg l d p f q=>?_⟩
  ·rcases ht.own g u with e|e
   ·exact(h.apart i k a hk o).1 g l e
   ·have:=r i a g l;omega
  ·have F:=ht.new d p f;have G:=r i a g l;omega
  ·rcases ht.own g l with e|e
   ·exact(h.apart i k a hk o).2.2 g e d p f q
   ·have:=B i a d p f;omega
 refine⟨hr,by rw[List.length_set,List.length_set,h.len],λi a=>?_,λi a=>?_,λi a=>?_,λi j a z y=>?_⟩
 all_goals rw[List.length_set] at a
 ·rw[getD_put xs x' cu0 k i hk,getD_put bk c' cm0 k i A];by_cases q:i=k
  ·rw[if_pos q,if_pos q];exact ht.has.kept hg m
  ·rw[if_neg q,if_neg q];have C:=h.apart i k a hk q
   have t:Off (xs.getD i cu0) (xs.getD k cu0).sold.ownBlock:=⟨fun g l u=>C.1 g l u,fun d p f e=>by
    exact C.2.2 p.block e.symm d p f rfl⟩
   exact((h.has i a).kept ht.grown t).kept hg (h.off i a)
 ·rw[getD_put xs x' cu0 k i hk];by_cases q:i=k
  ·rw[if_pos q];exact m
  ·rw[if_neg q];exact h.off i a
 ·rw[getD_put xs x' cu0 k i hk];by_cases q:i=k
  ·rw[if_pos q];exact ht.self
  ·rw[if_neg q];exact h.self i a
 ·rw[List.length_set] at z;rw[getD_put xs x' cu0 k i hk,getD_put xs x' cu0 k j hk];by_cases q:i=k<;>by_cases x:j=k
  ·omega
  ·rw[if_pos q,if_neg x];exact(n j z x).symm
  ·rw[if_neg q,if_pos x];exact n i a q
  ·rw[if_neg q,if_neg x];exact h.apart i j a z y
structure Sees (w:World) (p:Option Addr) (n:Nat) (xs:List Cu) (bk:List Cm):Prop where
 row:RowC w p n xs
 len:xs.length=bk.length
 num:∀i,i<xs.length→Nums (xs.getD i cu0) (bk.getD i cm0).a
 ds:∀i,i<xs.length→tar.Came w (xs.getD i cu0).dp (xs.getD i cu0).dn (xs.getD i cu0).dc (bk.getD i cm0).a.ds
 so:∀i,i<xs.length→RowS w (xs.getD i cu0).sp (xs.getD i cu0).sn (bk.getD i cm0).so
theorem Sees.below{p:Option Addr}{n:Nat}(h:Sees w p n xs bk)(hb:zB w w'):Sees w' p n xs bk:=⟨h.row.below hb,h.len,h.num,λi a=>(h.ds i a).below hb,λi a=>(h.so i a).below hb⟩
theorem Holds.sees{w:World}(h:Holds w base V xs bk):∃p cap,V=.slice p xs.length cap∧Sees w p xs.length xs bk:=by
 obtain⟨p,cap,f,d,_,_⟩:=h.row.row;refine⟨p,cap,f,d,h.len,λi b=>(h.has i b).num,λi b=>(h.has i b).ds.came,λi b=>?_⟩;obtain⟨a,c,e,r,_⟩:=(h.has i b).so.row;unfold Cu.sold at e;injection e with e1 e2 _
 rw[e1,e2];exact r
end book
namespace acc
open tar (Du du0 Came RowD Ld PairT)
open Go.RowKit
theorem rcopyL(x:Ac)(p:Option Addr)(len cap:Nat)(w:World)(h:RowD w p len x.ds)(hm:deb.Mays x.ds):Calls Tryz.prog 51 #[.agg #[zI x.me,zI x.rv,zI x.nx,zI x.mo,zI x.bo,zI x.fr,.slice p len cap]] w λe w'=>∃p' cap',e=.returned (Ac.v x p' len cap')∧deb.Fresh w' w.heap.size p' len cap' x.ds∧Ld 42 w' w.heap.size (.slice p' len cap') x.ds∧zB w w':=by
 have l:=h.1;have a8:len≤8:=by have:=hm.1;omega
 obtain⟨g,a2,I,J,y,a9⟩:=sh2 w #[zI x.me,zI x.rv,zI x.nx,zI x.mo,zI x.bo,zI x.fr,.slice p len cap] 55 #[zI 0,zI 0,zI 0,zI 0,zI 0,zI 0,zS] 55;have A:=zh (h.below y.o);have HM:=zh hm;have d:=zh l;clear h hm l;go_enter Tryz.func51,Tryz.ntmps51;go_upto_region 1 with fail
 rw[a2.o];go_wp2_with fail;go_loopw [3,4] (λu z wr=>∃(k:Nat)(V:Value),k≤len∧z=zI (k:Int)∧V=u∧Ld 42 wr g.heap.size V (x.ds.take k)∧zB g wr) (λ_ z _=>len-(intOf z).toNat)
 case atStart=>exact⟨0,_,Nat.zero_le _,rfl,rfl,tar.Ld.zero _ _ _,zb⟩
 case round=>
  obtain⟨k,V,hk,rfl,hV,t,j⟩:=hrel;subst hV;have T:=zh j;have HU:=zh t;have X:=zh (I.o.below j (by omega));have Y:=zh (J.o.below j (by omega));have c6:=zy6 X;by_cases s:k<len
  ·have a3:decide ((k:Int)<(len:Int))=true:=by simp;omega
   have E:k<x.ds.length:=by rw[d.o];exact s
   obtain⟨b,i,rfl,C,hc⟩:=A.o.at (by omega);have c0:wr.cell? ⟨b,i+k*2,none⟩=some (zI (x.ds.getD k du0).a):=(j.cell (p:=⟨b,i+k*2,none⟩) C).trans (hc k s).1;have c1:wr.cell? ⟨b,i+k*2+1,none⟩=some (zI (x.ds.getD k du0).b):=(j.cell (p:=⟨b,i+k*2+1,none⟩) C).trans (hc k s).2;have a1:Hid (x.ds.take (k+1)=x.ds.take k++[⟨(x.ds.getD k du0).a,(x.ds.getD k du0).b⟩]):=tar.take_one x.ds k E;have a5:(x.ds.take k).length≤1000000:=by rw[List.length_take];omega
   clear hc j t E;generalize x.ds.take k=Z at *;generalize (x.ds.getD k du0).a=n at *;generalize (x.ds.getD k du0).b=q at *;have m:=zyf T (.cells #[zI n,zI q] 42);have B:Hid (Ld 42 (wr.alloc (.cells #[zI n,zI q] 42)) g.heap.size V Z):=HU.o.alloc _;have U:Hid ((wr.alloc (.cells #[zI n,zI q] 42)).cell? ⟨wr.heap.size,0,none⟩=some (zI n)∧(wr.alloc (.cells #[zI n,zI q] 42)).cell? ⟨wr.heap.size,1,none⟩=some (zI q)):=⟨(Blk.new wr _ _).cell 0,(Blk.new wr _ _).cell 1⟩
   go_wp2_with (first
    |(at_builtin;refine tar.wp_pair deb.debtT rfl _ _ rfl g.heap.size wr.heap.size V Z ⟨n,q⟩ rfl rfl B.o U.o a5 m.o.size ?_)
    | fail)
   intro v3 w3 h3 D;have R:Hid (zB g w3):=tar.own_bel B.o D m.o zc m.o.size;have H3:Hid (Ld 42 w3 g.heap.size v3 (Z++[⟨n,q⟩])):=h3;clear h3 D c0 c1 c6;go_wp2_with fail;go_roundw
   case rel=>exact⟨k+1,v3,by omega,by go_num,by first|rfl|trivial,by rw[a1.o];exact H3.o,R.o⟩
   case measure=>simp[intOf];omega
  ·obtain rfl:len=k:=by omega
   have a3:decide ((len:Int)<(len:Int))=false:=by simp
   have F:x.ds.take len=x.ds:=List.take_of_length_le (by rw[d.o];exact zc);rw[F] at t;obtain⟨H,c,a4,r⟩:=deb.ld_fresh t HM.o;subst a4;rw[d.o] at r ⊢;have W:=zh r;have a0:Hid (Ld 42 wr g.heap.size (.slice H len c) x.ds):=by have G:=t;rw[d.o] at G;exact G
   have S:=zh (y.o.trans (j.mono (by omega)));clear j t r F;go_wp2_with refine zm ?_;intro W3 f;have a6:=zyb f;have a7:=zk1 f Y;have K:=zk f S;have L:=zh (fresh_upd W.o f (by omega));have M:=zh (ld_upd a0.o f (by omega));clear f c6;go_wp2_with (first|refine zw ?_|refine zs ?_)
   intro WF f;have Q:=zyb f;have N:=zk f K;have O:Hid (deb.Fresh WF w.heap.size H len c x.ds):=(fresh_upd L.o f (by omega)).low (by omega);have P:Hid (Ld 42 WF w.heap.size (.slice H len c) x.ds):=(ld_upd M.o f (by omega)).low (by omega);clear f;go_wp2_with fail;exact zr (.agg #[zI x.me,zI x.rv,zI x.nx,zI x.mo,zI x.bo,zI x.fr,.slice H len c]) (by simp[results,Tryz.results51,scl7 Q,go_sem]) ⟨H,c,rfl,O.o,P.o,N.o⟩
theorem rcopy(x:Ac)(p:Option Addr)(len cap:Nat)(w:World)(h:RowD w p len x.ds)(hm:deb.Mays x.ds):Calls Tryz.prog 51 #[.agg #[zI x.me,zI x.rv,zI x.nx,zI x.mo,zI x.bo,zI x.fr,.slice p len cap]] w λe w'=>∃p' cap',e=.returned (Ac.v x p' len cap')∧deb.Fresh w' w.heap.size p' len cap' x.ds∧zB w w':=
 (rcopyL x p len cap w h hm).mono λe w' c=>by
  obtain⟨p',cap',b,hf,_,a⟩:=c;exact⟨p',cap',b,hf,a⟩
theorem grown_blk{w w':World}{own:Option Nat}{G:Nat}{cs:Array Value}{t:TypeId}(h:Blk w G cs t)(hg:w.grownBy w' own)(hne:some G≠own):Blk w' G cs t:=by
 unfold Blk at *;rw[hg.block G (Blk.lt h) hne];exact h
end acc
namespace tar
open Go.RowKit
theorem rmay(a:Option Addr)(len cap:Nat)(ls:List Du)(x n:Int)(w:World)(hr:RowD w a len ls)(hl:len≤maxLen):Calls Tryz.prog 90 #[.slice a len cap,zI x,zI n] w λe w'=>ErrPost w (MayIs ls x n) e w':=by
 have c:Hid (∀W,zC 47 #[zI x,zI 0,zI 10000000] W λe w'=>e=.returned (.bool (decide (0≤x∧x≤10000000)))∧w'=W):=λW=>cal.cin x 0 10000000 W;have d:Hid (∀W,zC 47 #[zI n,zI 0,zI 2097151] W λe w'=>e=.returned (.bool (decide (0≤n∧n≤2097151)))∧w'=W):=λW=>cal.cin n 0 2097151 W;have q:Hid (zC 87 #[.slice a len cap] w λe w'=>ErrPost w (FaultIs ls) e w'):=rfault a len cap ls w hr hl;clear hr hl;go_enter Tryz.func90,Tryz.ntmps90;go_wp2_with fail;refine q.o.mono ?_;rintro e C ⟨f,rfl,hf,z⟩;have j:Hid (zB w C):=z;have D:Hid (FaultIs ls f):=hf;clear z;by_cases p:f=0
 ·subst p;have m:Hid (Right ls):=hf.ok.1 rfl;clear hf;by_cases l:0≤x∧x≤10000000
  ·rw[decide_eq_true l] at c;obtain⟨u,y⟩:=l;by_cases k:0≤n∧n≤2097151
   ·rw[decide_eq_true k] at d;obtain⟨r,s⟩:=k;by_cases t:x+n≤10000000
    ·have g:Hid (MayIs ls x n 0):=.inr (.inr ⟨m.o,⟨⟨u,y⟩,⟨r,s⟩,t⟩,rfl⟩);have A:decide (10000000<x+n)=false:=decide_eq_false (by omega);go_wp2_with fail;refine(c.o _).mono ?_;rintro e i ⟨rfl,b⟩;subst b;go_wp2_with fail;refine(d.o _).mono ?_;rintro e i ⟨rfl,b⟩;subst b;go_wp2_with fail;go_ret;exact⟨_,rfl,g.o,j.o⟩
    ·have g:Hid (MayIs ls x n 2):=.inr (.inl ⟨m.o,λh=>t h.2.2,rfl⟩);have A:decide (10000000<x+n)=true:=decide_eq_true (by omega);clear t;go_wp2_with fail;refine(c.o _).mono ?_;rintro e i ⟨rfl,b⟩;subst b;go_wp2_with fail;refine(d.o _).mono ?_;rintro e i ⟨rfl,b⟩;subst b;go_wp2_with fail;go_ret;exact⟨_,rfl,g.o,j.o⟩
   ·rw[decide_eq_false k] at d;have g:Hid (MayIs ls x n 2):=.inr (.inl ⟨m.o,λh=>k h.2.1,rfl⟩);clear k;go_wp2_with fail;refine(c.o _).mono ?_;rintro e i ⟨rfl,b⟩;subst b;go_wp2_with fail;refine(d.o _).mono ?_;rintro e i ⟨rfl,b⟩;subst b;go_wp2_with fail
    all_goals first
     |(rename_i q1 q2;exact absurd q1 (by simp[undef]))
     |(go_ret;exact⟨_,rfl,g.o,j.o⟩)
  ·rw[decide_eq_false l] at c;have g:Hid (MayIs ls x n 2):=.inr (.inl ⟨m.o,λh=>l h.1,rfl⟩);clear l;go_wp2_with fail;refine(c.o _).mono ?_;rintro e i ⟨rfl,b⟩;subst b;go_wp2_with fail
   all_goals first
    |(rename_i q1 q2;exact absurd q1 (by simp[undef]))
    |(go_ret;exact⟨_,rfl,g.o,j.o⟩)
 ·have B:(f != 0)=true:=by simpa using p
  have g:Hid (MayIs ls x n f):=.inl ⟨λh=>p (hf.ok.2 h),hf⟩;clear hf p;go_wp2_with fail;go_ret;exact⟨_,rfl,g.o,j.o⟩
end tar
namespace deb
open tar (Du du0 Came RowD Ld ErrPost TwoPost PairT GaveD)
open Go.RowKit
theorem kage:KdAge:=by
 intro w a len ae c mo n aN;have hr:=n.row;have aw:=zh n.bytes;have ab:=zh n.nil;have ay:=zh (pcheck a len ae c w hr n.most);have I:Hid (∀W,zC 145 #[zI 0,zI 2400,zI mo] W λe w'=>e=.returned (.bool (decide (0≤mo∧mo≤2400)))∧w'=W):=λW=>dwithin 0 2400 mo W;have X:=zh hr;clear n hr aN;go_enter Tryz.func144,Tryz.ntmps144;go_wp2_with fail;go_step3;go_wp2_with fail;refine ay.o.mono ?_;rintro e w1 ⟨f,rfl,hf,ah⟩;have t:=zh ah;have HF:=zh hf;clear ah;by_cases h0:f=0
 ·subst h0;have hm:=hf.ok.1 rfl;have HM:=zh hm;have E:=zh (X.o.below t.o);have l:=zh E.o.1;have aW:len≤8:=by have:=hm.1;have:=l.o;omega
  clear hf hm;by_cases B:0≤mo∧mo≤2400
  ·rw[decide_eq_true B] at I;have K:=zh B;obtain⟨m,rfl⟩:=Int.eq_ofNat_of_zero_le B.1;have aX:m≤2400:=by omega
   have aa:Hid ((m:Int).toNat=m):=by show _=_;omega
   clear B;go_wp2_with fail;refine(I.o _).mono ?_;rintro e s ⟨rfl,a2⟩;subst a2;cases a with
   |none=>
    have aH:=ab.o rfl;have aM:len=0:=by rcases E.o.2 with h|⟨b,i,h,_⟩;exact h;cases h
    subst aH aM;have aS:∀w:World,(Builtin.append_ #[53,53] 53 #[zS,zS]).run Tryz.prog w=.ok (zS) w:=λw=>by kernel_rfl
    have Q:Hid (AgeIs c (m:Int) (ageAll c m) 0):=.inr (.inr ⟨HM.o,K.o,rfl,by rw[aa.o]⟩)
    have HZ:Hid (ageAll c m=[]):=by
     obtain rfl:c=[]:=List.eq_nil_of_length_eq_zero l.o;rfl
    go_wp2_with fail;go_step3;go_wp2_with fail;go_loopg [22] 0 (λg z wr=>z=zI 0∧wr=s)
    case atStart=>exact⟨rfl,rfl⟩
    case round=>
     obtain⟨rfl,rfl⟩:=hrel;go_wp2_with fail
     try rw[Exit.noGoto_ret]
     go_ret2;exact⟨none,0,0,_,0,rfl,Q.o,by rw[HZ.o];exact fresh_nil _ _,t.o⟩
   |some A=>
    go_wp2_with (first
     |(at_builtin;refine tar.wp_pairs debtT rfl _ _ rfl s.heap.size A len ae c rfl rfl E.o aw.o zc ?_)
     | fail)
    intro v3 w3 G hg;obtain⟨Y,d,ao,M⟩:=ld_mays G HM.o;rw[l.o] at ao;subst ao;have aB:=zh G;have ar:Hid (zB s w3):=zb.grown hg zc (λk hk=>by cases hk);clear G hg M;go_wp2_with fail;go_step3;go_wp2_with fail;have a9:=zh aB.o;go_loopg [22] len (λg z wr=>∃k:Nat,k+g=len∧z=zI (k:Int)∧Ld 42 wr s.heap.size (.slice Y len d) (mixK c m k)∧zB s wr)
    case atStart=>exact⟨0,by omega,rfl,a9.o,ar.o⟩
    case round=>
     obtain⟨k,aV,rfl,hl,hb⟩:=hrel;have a8:=zh hl;have a5:=zh hb;clear hl hb;cases gk with
     |zero=>
      obtain rfl:k=len:=by omega
      have aK:decide ((k:Int)<(k:Int))=false:=by simp
      have Q:Hid (AgeIs c (m:Int) (ageAll c m) 0):=.inr (.inr ⟨HM.o,K.o,rfl,by rw[aa.o]⟩);have aD:Hid (Ld 42 wr s.heap.size (.slice Y k d) (ageAll c m)):=by have:=a8.o;rw[mix_all c m k l.o] at this;exact this
      have ax:Hid (Fresh wr w.heap.size Y k d (ageAll c m)):=by
       obtain⟨a4,aR,a1,M⟩:=ld_fresh aD.o (ageAll_mays HM.o m);have e:(ageAll c m).length=k:=by rw[ageAll_len];exact l.o
       rw[e] at a1 M;simp only[Value.slice.injEq,true_and] at a1;obtain⟨rfl,rfl⟩:=a1;exact M.low t.o.size
      have av:=zh (t.o.trans (a5.o.mono t.o.size));generalize ageAll c m=Z at *;go_wp2_with fail
      try rw[Exit.noGoto_ret]
      go_ret2;exact⟨Y,k,d,Z,0,rfl,Q.o,ax.o,av.o⟩
     |succ g=>
      have F:k<len:=by omega
      have aK:decide ((k:Int)<(len:Int))=true:=by simp;omega
      have N:k<c.length:=by rw[l.o];exact F
      have ho:=HM.o.2 k N;have J:Hid ((mixK c m k).length=len):=by show _=_;rw[mix_len c m k (by omega)];exact l.o
      have aE:=zh (mix_same c m k N);have ac:=zh (mix_next c m k N);have aP:=ho.1.1;have aQ:=ho.1.2;have O:=ho.2.1;have ap:=ho.2.2;clear ho N;generalize (c.getD k du0).a=x at *;generalize (c.getD k du0).b=y at *;go_wp2_with fail;go_loopg [26] m (λg2 z wy=>∃j:Nat,j+g2=m∧z=zI (j:Int)∧Ld 42 wy s.heap.size (.slice Y len d) ((mixK c m k).set k ⟨growN y j x,y⟩)∧zB s wy)
      case atStart=>exact⟨0,by omega,rfl,by rw[aE.o];exact a8.o,a5.o⟩
      case round=>
       rename_i wo
       obtain⟨j,aT,rfl,hl,hb⟩:=hrel;have C:=zh hl;have H:=zh hb;clear hl hb;cases gk with
       |zero=>
        obtain rfl:j=m:=by omega
        have aJ:decide ((j:Int)<(j:Int))=false:=by simp
        have V:Hid (Ld 42 wr s.heap.size (.slice Y len d) (mixK c j (k+1))):=by have:=C.o;rw[ac.o] at this;exact this
        go_wp2_with fail;go_roundg g
        case measure=>omega
        case rel=>exact⟨k+1,by omega,by first|rfl|go_num,V.o,H.o⟩
       |succ g2=>
        have aJ:decide ((j:Int)<(m:Int))=true:=by simp;omega
        have aU:j<m:=by omega
        obtain⟨L,af,aj,al,P,aI,ai⟩:=ld_lies C.o (by omega);have r:=ai k (by rw[List.length_set,J.o];exact F)
        have ag:((mixK c m k).set k ⟨growN y j x,y⟩).getD k du0=⟨growN y j x,y⟩:=by
         have:k<(mixK c m k).length:=by rw[J.o];exact F
         simp[List.getD,this]
        rw[ag] at r;obtain⟨i,hoff⟩:∃i:Nat,i=0:=⟨0,rfl⟩
        have ad:=zh hoff;have ak:Y=some ⟨L,i,none⟩:=by rw[aj,hoff]
        have c0:wr.cell? ⟨L,i+k*2,none⟩=some (zI (growN y j x)):=by rw[hoff,Nat.zero_add];exact r.1
        have c1:wr.cell? ⟨L,i+k*2+1,none⟩=some (zI y):=by rw[hoff,Nat.zero_add];exact r.2
        have S:=zh P;have aL:i+k*2<af.size:=by omega
        have az:=zh al;clear r ag ai P al aj aI hoff;subst ak;have am:=growN_bd O ap aP aQ j;have a0:0≤growN y j x:=by omega
        have an:=am.2;have a6:Hid (growN y (j+1) x=grow y (growN y j x)):=rfl;have T:Hid (∀W,zC 180 #[.agg #[zI (growN y j x),zI y]] W λe w'=>e=.returned (zI (min (growN y j x*y/10000) (1000000000-growN y j x)))∧zB W w'):=λW=>pgrowth _ _ W ⟨a0,an⟩ ⟨O,ap⟩;have D:=zh (grow_more a0 an O)
        have aZ:0≤min (growN y j x*y/10000) (1000000000-growN y j x):=by
         have:=Int.mul_nonneg a0 O;generalize growN y j x*y=pp at *;omega
        have b0:min (growN y j x*y/10000) (1000000000-growN y j x)≤1000000000-growN y j x:=Int.min_le_right _ _;generalize min (growN y j x*y/10000) (1000000000-growN y j x)=v at *;clear am;by_cases hz:v=0
        ·have aO:(v==0)=true:=by simpa using hz
         have aG:Hid (growN y m x=growN y j x):=by
          have h1:grow y (growN y j x)=growN y j x:=by rw[D.o,hz];omega
          have h2:=growN_still h1 (m-j);rw[growN_add,show j+(m-j)=m by omega] at h2;exact h2
         have V:Hid (Ld 42 wr s.heap.size (.slice (some ⟨L,i,none⟩) len d) (mixK c m (k+1))):=by have:=C.o;rw[← aG.o,ac.o] at this;exact this
         clear hz;generalize growN y j x=u at *;go_wp2_with fail;refine(T.o _).mono ?_;rintro e w5 ⟨rfl,q⟩;have U:=zh (V.o.next q);have R:=shB H q;clear q c0 c1;go_wp2_with fail;go_roundg g
         case measure=>omega
         case rel=>exact⟨k+1,by omega,by first|rfl|go_num,U.o,R.o⟩
        ·have aO:(v==0)=false:=by simpa using hz
         have aF:Hid (((mixK c m k).set k ⟨growN y j x,y⟩).set k ⟨growN y j x+v,y⟩=(mixK c m k).set k ⟨growN y (j+1) x,y⟩):=by show _=_;rw[List.set_set,a6.o,D.o]
         have aq:Hid ((((mixK c m k).set k ⟨growN y j x,y⟩).getD k du0).b=y):=by
          have:k<(mixK c m k).length:=by rw[J.o];exact F
          show _=_;simp[List.getD,this]
         have aA:Hid (k<((mixK c m k).set k ⟨growN y j x,y⟩).length):=by show _<_;rw[List.length_set,J.o];exact F
         clear hz a6 D;generalize (mixK c m k).set k ⟨growN y j x,y⟩=Z at *;generalize growN y j x=u at *;go_wp2_with fail;refine(T.o _).mono ?_;rintro e w5 ⟨rfl,q⟩;have U:Hid (Ld 42 w5 s.heap.size (.slice (some ⟨L,i,none⟩) len d) Z):=C.o.next q;have R:=shB H q;have a7:=shN S q;have e0:w5.cell? ⟨L,i+k*2,none⟩=some (zI u):=(q.cell (p:=⟨L,i+k*2,none⟩) S.o.lt).trans c0;clear q T C c0 c1 S H
         go_wp2_with (first
          |(refine wp_let1 rfl 3 _ _ rfl L (i+k*2) rfl .i64 (u+v) rfl (by kernel_rfl) af 42 a7.o aL ?_)
          | fail)
         intro W6 hU
         have aC:Hid (Ld 42 W6 s.heap.size (.slice (some ⟨L,i,none⟩) len d) ((mixK c m k).set k ⟨growN y (j+1) x,y⟩)):=by
          obtain rfl:=ad.o;rw[Nat.zero_add] at hU;show Ld _ _ _ _ _;rw[← aF.o];exact ld_put U.o a7.o k aA.o _ _ aq.o hU
         have au:Hid (zB s W6):=hU.bel _ _ az.o R.o;clear hU e0;go_wp2_with fail;go_roundg g2
         case measure=>omega
         case rel=>exact⟨j+1,by omega,by first|rfl|go_num,aC.o,au.o⟩
  ·rw[decide_eq_false B] at I;have K:=zh B;clear B;go_wp2_with fail;refine(I.o _).mono ?_;rintro e s ⟨rfl,a2⟩;subst a2;go_wp2_with fail
   try rw[Exit.noGoto_ret]
   go_ret2;exact⟨none,0,0,[],2,rfl,.inr (.inl ⟨HM.o,K.o,rfl,rfl⟩),fresh_nil _ _,t.o⟩
 ·have aY:(f != 0)=true:=by simpa using h0
  have HN:Hid (¬ Mays c):=λh=>h0 (hf.ok.2 h);clear hf h0;go_wp2_with fail
  try rw[Exit.noGoto_ret]
  go_ret2;exact⟨none,0,0,[],f,rfl,.inl ⟨HN.o,HF.o,rfl⟩,fresh_nil _ _,t.o⟩
def KdRec:Prop:=∀(W:World)(a:Option Addr)(len cap:Nat)(ls:List Du)(t bp:Int),Came W a len cap ls→(Lit.int .i64 t).wf=true→(Lit.int .i64 bp).wf=true→zC 67 #[.slice a len cap,zI t,zI bp] W λe w'=>RecPost W ls t bp e w'
def SharePost(ls:List Du)(t bp:Int)(w:World)(e:Ending)(w':World):Prop:=∃s f,e=.returned (.tuple #[zI s,zI f])∧((¬ Mays ls∧FaultIs ls f∧s=0)∨(Mays ls∧ShareIs t bp s f))∧zB w w'
theorem pshare(a:Option Addr)(len cap:Nat)(ls:List Du)(t bp:Int)(w:World)(hr:RowD w a len ls)(hl:len≤maxLen):Calls Tryz.prog 99 #[.slice a len cap,zI t,zI bp] w λe w'=>SharePost ls t bp w e w':=by
 have q:Hid (zC 142 #[.slice a len cap] w λe w'=>∃f,e=.returned (zI f)∧FaultIs ls f∧zB w w'):=pcheck a len cap ls w hr hl;have b:Hid (∀W,zC 145 #[zI 0,zI 100000000,zI t] W λe w'=>e=.returned (.bool (decide (0≤t∧t≤100000000)))∧w'=W):=λW=>dwithin 0 100000000 t W;clear hr hl;go_enter Tryz.func99,Tryz.ntmps99;go_wp2_with fail;refine q.o.mono ?_;rintro e z ⟨f,rfl,hf,n⟩;have g:Hid (zB w z):=n;have u:Hid (FaultIs ls f):=hf;clear n;by_cases p:f=0
 ·subst p;have r:Hid (Mays ls):=hf.ok.1 rfl;clear hf;by_cases i:0≤t∧t≤100000000
  ·rw[decide_eq_true i] at b;by_cases l:0≤bp∧bp≤10000
   ·have k:Hid (∀W,zC 68 #[zI t,zI bp] W λe w'=>e=.returned (.tuple #[zI (t*bp/10000),zI 0])∧zB W w'):=λW=>cents.part_yes t bp W i.1 (by omega) l.1 l.2;have m:Hid (TMay t bp):=⟨i,l⟩
    clear i l;go_wp2_with fail;refine(b.o _).mono ?_;rintro e s ⟨rfl,d⟩;subst d;go_wp2_with fail;refine(k.o _).mono ?_;rintro e A ⟨rfl,c⟩;have j:=shB g c;clear c;go_wp2_with fail;go_ret2;exact⟨_,_,rfl,.inr ⟨r.o,.inl ⟨m.o,rfl,rfl⟩⟩,j.o⟩
   ·have k:Hid (∀W,zC 68 #[zI t,zI bp] W λe w'=>e=.returned (.tuple #[zI 0,zI 2])∧zB W w'):=λW=>cents.part_no t bp W (.inr (by omega));have m:Hid (¬ TMay t bp):=λh=>l h.2;clear i l;go_wp2_with fail;refine(b.o _).mono ?_;rintro e s ⟨rfl,d⟩;subst d;go_wp2_with fail;refine(k.o _).mono ?_;rintro e A ⟨rfl,c⟩;have j:=shB g c;clear c;go_wp2_with fail;go_ret2;exact⟨_,_,rfl,.inr ⟨r.o,.inr ⟨m.o,rfl,rfl⟩⟩,j.o⟩
  ·rw[decide_eq_false i] at b;have m:Hid (¬ TMay t bp):=λh=>i h.1;clear i;go_wp2_with fail;refine(b.o _).mono ?_;rintro e s ⟨rfl,d⟩;subst d;go_wp2_with fail;go_ret2;exact⟨_,_,rfl,.inr ⟨r.o,.inr ⟨m.o,rfl,rfl⟩⟩,g.o⟩
 ·have y:(f != 0)=true:=by simpa using p
  have x:Hid (¬ Mays ls):=λh=>p (hf.ok.2 h);clear hf p;go_wp2_with fail;go_ret2;exact⟨_,_,rfl,.inl ⟨x.o,u.o,rfl⟩,g.o⟩
end deb
namespace tar
open Go.RowKit Go.Shelf
attribute [local go_sem] Oper.semAt_some
theorem blk_own{β:Type}(B:Nat)(t:TypeId)(f:β→Array Value):Own (λs W=>Blk W B (f s) t):=λs X Y row b g a=>by
 have h:=b.lt;refine(g.block B h λd=>?_).trans b;obtain⟨o,c,e⟩:=a B d.symm;rw[show X.heap[B]?=_ from b] at c;cases c;cases e
def boxes(w:World)(v:Value)(x u:Int):World:=((w.alloc (.cells #[v] 22)).alloc (.cells #[zI x] 3)).alloc (.cells #[zI u] 3)
theorem boxes_size(w:World)(v:Value)(x u:Int):(boxes w v x u).heap.size=w.heap.size+3:=by unfold boxes;simp
theorem boxes_t(w:World)(v:Value)(x u:Int):Boxed (boxes w v x u) w.heap.size 22 v:=((Boxed.new w _ v).alloc _).alloc _
theorem boxes_x(w:World)(v:Value)(x u:Int):Boxed (boxes w v x u) (w.heap.size+1) 3 (zI x):=by
 have h:=(Boxed.new (w.alloc (.cells #[v] 22)) 3 (zI x)).alloc (.cells #[zI u] 3);rw[World.size_alloc] at h;exact h
theorem boxes_u(w:World)(v:Value)(x u:Int):Boxed (boxes w v x u) (w.heap.size+1+1) 3 (zI u):=by
 have h:=Boxed.new ((w.alloc (.cells #[v] 22)).alloc (.cells #[zI x] 3)) 3 (zI u);rw[World.size_alloc,World.size_alloc] at h;exact h
theorem boxes_bel{n:Nat}{w0 w:World}(h:Below n w0 w)(hn:n≤w.heap.size)(v:Value)(x u:Int):Below n w0 (boxes w v x u):=((h.alloc hn _).alloc (by simp;omega) _).alloc (by simp;omega) _
theorem boxes_boxed{w:World}{B:Nat}{t:TypeId}{o:Value}(h:Boxed w B t o)(v:Value)(x u:Int):Boxed (boxes w v x u) B t o:=((h.alloc _).alloc _).alloc _
theorem lines_in(F:Fence)(n:Nat)(hF:F.fn 103)(hro:F.round=none)(a:Option Addr)(len cap:Nat)(x u:Int)(w:World):
  CallsIn F n Tryz.prog 103 #[.slice a len cap,zI x,zI u] w λe w'=>e=.returned (.func (.func 147) #[] #[.pointer (some ⟨w.heap.size+1,0,none⟩),.pointer (some ⟨w.heap.size,0,none⟩),.pointer (some ⟨w.heap.size+1+1,0,none⟩)])∧w'=boxes w (.slice a len cap) x u:=by
 refine callsIn_of_wp Tryz.func103 rfl hF ?_ hro;simp only[Tryz.ntmps103,List.size_toArray,List.length_cons,List.length_nil,Nat.reduceAdd,Nat.reduceSub,Array.replicate_succ,Array.replicate_zero,List.push_toArray,List.append_toArray,List.nil_append,List.cons_append]
 gi_wp2
 go_ret;exact⟨rfl,rfl⟩
structure Lnd (w:World) (n₀ B b off len cap:Nat) (ls:List Du) (x u:Int):Prop where
 right:Right ls
 many:ls.length=len
 x0:0≤x
 x1:x≤10000000
 u0:0≤u
 u1:x+u≤10000000
 bt:Boxed w B 22 (.slice (some ⟨b,off,none⟩) len cap)
 bx:Boxed w (B+1) 3 (zI x)
 bu:Boxed w (B+1+1) 3 (zI u)
 hb:b<n₀
 hn:n₀≤w.heap.size
 row:∀i,i<len→w.cell? ⟨b,off+i*2,none⟩=some (zI (ls.getD i du0).a)∧w.cell? ⟨b,off+i*2+1,none⟩=some (zI (ls.getD i du0).b)
theorem lines_stops(F:Fence)(n:Nat)(hF:F.fn 147)(hro:F.round=none)(hn:1≤n)(n₀ B b off len cap:Nat)(ls:List Du)(x u:Int)(w:World)(h:Lnd w n₀ B b off len cap ls x u):
  SeqStopsK F n Tryz.prog 147 #[.pointer (some ⟨B+1,0,none⟩),.pointer (some ⟨B,0,none⟩),.pointer (some ⟨B+1+1,0,none⟩)] encL (Kq n₀ B (B+3)) (λys=>lns ys=billK ls x (x+u) len) (λpre=>lns pre <+: billK ls x (x+u) len) len w:=λl J d W a f _ g e=>
 lines1_in F n hF hro hn l (B+1) B (B+1+1) n₀ B (B+3) b off len cap W.heap.size ls x u J d h.right h.many ⟨h.x0,h.x1⟩ ⟨h.u0,h.u1⟩ f g W
  (boxed_same h.bx (a.block _ h.bx.lt)) (boxed_same h.bt (a.block _ h.bt.lt)) (boxed_same h.bu (a.block _ h.bu.lt)) ⟨by omega,by omega⟩ ⟨by omega,by omega⟩ h.hb (Nat.le_trans h.hn a.size)
  (λi c=>⟨(a.cell (p:=⟨b,off+i*2,none⟩) (Nat.lt_of_lt_of_le h.hb h.hn)).trans (h.row i c).1,(a.cell (p:=⟨b,off+i*2+1,none⟩) (Nat.lt_of_lt_of_le h.hb h.hn)).trans (h.row i c).2⟩) e
theorem Kq.refl(n lo hi:Nat)(W:World):Kq n lo hi W W:=⟨zb,λ_ _ _=>rfl⟩
variable{n lo hi:Nat}
theorem Kq.alloc{W W':World}(h:Kq n lo hi W W')(o:Obj)(hn:n≤W'.heap.size)(hs:hi≤W'.heap.size):Kq n lo hi W (W'.alloc o):=⟨h.1.alloc hn o,λj a b=>(Below.heap_alloc W' o j (by omega)).trans (h.2 j a b)⟩
theorem Kq.set{W W':World}(h:Kq n lo hi W W')(B i:Nat)(v:Value)(hB:n≤B)(hl:B<lo∨hi≤B):Kq n lo hi W (W'.setCell ⟨B,i,none⟩ v):=⟨h.1.setCell (p:=⟨B,i,none⟩) hB v,λj a b=>(Below.heap_setCell W' ⟨B,i,none⟩ v j (by show j≠B;omega)).trans (h.2 j a b)⟩
theorem kq_b{w:World}(hn:n≤w.heap.size)(hh:hi≤w.heap.size)(W:World)(l:Nat)(o o':Obj)(hl:w.heap.size≤l)(h:W.heap[l]?=some o)(hc:o.isCells=false)(hw:o.isWalk=false):Kq n lo hi W (W.putObj l o'):=⟨belowK_b hn W l o o' hl h hc hw,λj a b=>(grownBy_putObj' W l o').block j (by have:=(Array.getElem?_eq_some_iff.1 h).1;omega) (λe=>by cases e;omega)⟩
theorem lnd_of{w w1:World}(n₀ B b off len cap:Nat){ls:List Du}{x u:Int}(hr:Right ls)(hl:ls.length=len)(hx:0≤x∧x≤10000000)(hu:0≤u∧x+u≤10000000)(hB:w1.heap.size=B)(hb:b<n₀)(hn:n₀≤w1.heap.size)
  (hbel:Below n₀ w w1) (hc:∀i,i<len→w.cell? ⟨b,off+i*2,none⟩=some (zI (ls.getD i du0).a)∧w.cell? ⟨b,off+i*2+1,none⟩=some (zI (ls.getD i du0).b)):Lnd (boxes w1 (.slice (some ⟨b,off,none⟩) len cap) x u) n₀ B b off len cap ls x u:=by
 subst hB;have c:=boxes_bel hbel hn (.slice (some ⟨b,off,none⟩) len cap) x u;exact⟨hr,hl,hx.1,hx.2,hu.1,hu.2,boxes_t _ _ _ _,boxes_x _ _ _ _,boxes_u _ _ _ _,hb,by rw[boxes_size];omega,λi d=>⟨(c.cell (p:=⟨b,off+i*2,none⟩) hb).trans (hc i d).1,(c.cell (p:=⟨b,off+i*2+1,none⟩) hb).trans (hc i d).2⟩⟩
def KtMost:Prop:=∀(W:World)(a:Option Addr)(len cap:Nat)(ls:List Du)(x n:Int),Came W a len cap ls→(Lit.int .i64 x).wf=true→(Lit.int .i64 n).wf=true→zC 69 #[.slice a len cap,zI x,zI n] W λe w'=>ThreePost W (MostIs ls x n) e w'
end tar
namespace deb
open tar (Du du0 Came RowD Ld ErrPost TwoPost PairT GaveD)
open Go.RowKit
theorem ktotal:KdTotal:=by
 intro w a len c g b;have s:=b.row;have p:Hid (zC 142 #[.slice a len c] w λe j=>∃f,e=.returned (zI f)∧FaultIs g f∧zB w j):=pcheck a len c g w s b.most;have r:Hid (Mays g→∀W,zB w W→zC 143 #[.slice a len c] W λe j=>e=.returned (zI (sumD g))∧zB W j):=λm W x=>powed a len c g W (s.below x) m;clear b s;go_enter Tryz.func96,Tryz.ntmps96;go_wp2_with fail;refine p.o.mono ?_;rintro e k ⟨f,rfl,hf,h⟩;have d:Hid (zB w k):=h;have t:Hid (FaultIs g f):=hf;clear h;by_cases l:f=0
 ·subst l;have m:=hf.ok.1 rfl;have q:Hid (zC 143 #[.slice a len c] k λe j=>e=.returned (zI (sumD g))∧zB k j):=r.o m k d.o;clear hf m;go_wp2_with fail;refine q.o.mono ?_;rintro e z ⟨rfl,i⟩;have n:=shB d i;clear i;go_wp2_with fail;go_ret2;exact⟨_,_,rfl,⟨t.o,.inl ⟨rfl,rfl⟩⟩,n.o⟩
 ·have y:(f != 0)=true:=by simpa using l
  have u:Hid (f≠0):=l;clear hf l;go_wp2_with fail;go_ret2;exact⟨_,_,rfl,⟨t.o,.inr ⟨u.o,rfl⟩⟩,d.o⟩
end deb
namespace book
open Go.RowKit cell
def EncGot(w:World)(v:Ev)(e:Ending)(w':World):Prop:=∃a n cap ws f,e=.returned (.tuple #[.slice a n cap,zI f])∧EncIs v ws f∧RowU w' a n ws∧(a=none→cap=0)∧n≤cap∧n≤13∧zB w w'
def KEnc:Prop:=∀(W:World)(v:Ev),wf13 v→zC 76 #[v.v] W λe w'=>EncGot W v e w'
end book
end Go.Proofs.YtoepgdhiepedeaaGreatDoor
