import Derived.Test.YtoepgdhiepedeaaGreatDoorVVRys8
import Derived.Test.YtoepgdhiepedeaaGreatDoorVVRys10
set_option linter.unusedVariables false
set_option linter.unusedSimpArgs false
set_option maxHeartbeats 4000000
set_option maxRecDepth 100000
namespace Go.Proofs.YtoepgdhiepedeaaGreatDoor
namespace book
open Go.RowKit
variable{w w':World}{base:Nat}{xs:List Cu}{bk:List Cm}{own:Option Nat}{V:Value}{x:Cu}{c:Cm}
theorem rowD_grown{a:Option Addr}{n:Nat}{zs:List tar.Du}(h:tar.RowD w a n zs)(hg:w.grownBy w' own)(hne:0<n→∀x,a=some x→some x.block≠own):tar.RowD w' a n zs:=by
 refine⟨h.1,?_⟩;rcases h.2 with f|⟨b,c,rfl,j⟩
 ·exact .inl f
 ·refine .inr ⟨b,c,rfl,λi k=>?_⟩;have d:=j i k;have g:=hg.block b (World.block_lt_of_cell? w ⟨b,c+i*2,none⟩ d.1) (hne (by omega) _ rfl);have e:∀o,w'.cell? ⟨b,o,none⟩=w.cell? ⟨b,o,none⟩:=λo=>by simp[World.cell?,g]
  rw[e,e];exact d
theorem came_grown{a:Option Addr}{n cap:Nat}{zs:List tar.Du}(h:tar.Came w a n cap zs)(hg:w.grownBy w' own)(hne:0<n→∀x,a=some x→some x.block≠own):tar.Came w' a n cap zs:=⟨rowD_grown h.row hg hne,h.nil,h.room,h.bytes,h.wf⟩
def Cu.sold(x:Cu):Value:=.slice x.sp x.sn x.sc
def Cu.v(x:Cu):Value:=.agg x.cs.toArray
def Nums(x:Cu)(a:acc.Ac):Prop:=x.me=a.me∧x.rv=a.rv∧x.nx=a.nx∧x.mo=a.mo∧x.bo=a.bo∧x.fr=a.fr
structure Has (w:World) (base:Nat) (x:Cu) (c:Cm):Prop where
 num:Nums x c.a
 ds:deb.Fresh w base x.dp x.dn x.dc c.a.ds
 so:Lo w base x.sold c.so
def Apart(x y:Cu):Prop:=(∀g,x.sold.ownBlock=some g→y.sold.ownBlock≠some g)∧(∀g,x.sold.ownBlock=some g→0<y.dn→∀p,y.dp=some p→p.block≠g)∧(∀g,y.sold.ownBlock=some g→0<x.dn→∀p,x.dp=some p→p.block≠g)
theorem Apart.symm{x y:Cu}(h:Apart x y):Apart y x:=⟨λg a b=>h.1 g b a,h.2.2,h.2.1⟩
def Off(x:Cu)(own:Option Nat):Prop:=(∀g,x.sold.ownBlock=some g→own≠some g)∧(0<x.dn→∀p,x.dp=some p→some p.block≠own)
theorem Has.next(h:Has w base x c)(hb:zB w w'):Has w' base x c:=⟨h.num,h.ds.below hb,h.so.next hb⟩
theorem Has.kept(h:Has w base x c)(hg:w.grownBy w' own)(ho:Off x own):Has w' base x c:=⟨h.num,⟨came_grown h.ds.came hg ho.2,h.ds.new⟩,h.so.kept hg ho.1⟩
structure Holds (w:World) (base:Nat) (V:Value) (xs:List Cu) (bk:List Cm):Prop where
 row:Lc w base V xs
 len:xs.length=bk.length
 has:∀i,i<xs.length→Has w base (xs.getD i cu0) (bk.getD i cm0)
 off:∀i,i<xs.length→Off (xs.getD i cu0) V.ownBlock
 self:∀i,i<xs.length→∀g,(xs.getD i cu0).sold.ownBlock=some g→0<(xs.getD i cu0).dn→∀p,(xs.getD i cu0).dp=some p→p.block≠g
 apart:∀i j,i<xs.length→j<xs.length→i≠j→Apart (xs.getD i cu0) (xs.getD j cu0)
theorem Holds.zero(w:World)(base:Nat):Holds w base (zS) [] []:=⟨Lc.zero _ _,rfl,(λi a=>by cases a),(λi a=>by cases a),(λi a=>by cases a),(λi j a=>by cases a)⟩
theorem Holds.next(h:Holds w base V xs bk)(hb:zB w w'):Holds w' base V xs bk:=⟨h.row.next hb,h.len,λi a=>(h.has i a).next hb,h.off,h.self,h.apart⟩
theorem getD_snoc{α:Type}(l:List α)(x d:α)(i:Nat)(hi:i<l.length+1):(l++[x]).getD i d=if i<l.length then l.getD i d else x:=by
 by_cases h:i<l.length
 ·rw[if_pos h];simp[List.getD,List.getElem?_append_left h]
 ·have:i=l.length:=by omega
  subst this;rw[if_neg h];simp[List.getD]
theorem Holds.snoc{V V':Value}(h:Holds w base V xs bk)(hx:Has w base x c)(hxs:x.sold.ownBlock=none)(hxd:x.dn=0)
  (hr:Lc w' base V' (xs++[x])) (hg:w.grownBy w' V.ownBlock) (ho:V'.ownBlock=V.ownBlock∨V'.ownBlock=some w.heap.size):Holds w' base V' (xs++[x]) (bk++[c]):=by
 have n:∀y:Cu,Off y V.ownBlock→(∀g,y.sold.ownBlock=some g→g<w.heap.size)→(0<y.dn→∀p,y.dp=some p→p.block<w.heap.size)→Off y V'.ownBlock:=λy k r D=>by
  rcases ho with e|e
  ·rw[e];exact k
  ·rw[e];exact⟨λg t q=>(by have:=r g t;have:=Option.some.inj q;omega),λl p z q=>(by have:=D l p z;have:=Option.some.inj q;omega)⟩
 have A:∀i,i<xs.length→∀g,(xs.getD i cu0).sold.ownBlock=some g→g<w.heap.size:=λi d g a=>(World.ownsRow.lt (h.has i d).so g a).2
 have B:∀i,i<xs.length→0<(xs.getD i cu0).dn→∀p,(xs.getD i cu0).dp=some p→p.block<w.heap.size:=λi d l p z=>by
  obtain⟨b,F,e,E,_⟩:=(h.has i d).ds.came.row.at l;rw[z] at e;rw[Option.some.inj e];exact E
 have o:Off x V.ownBlock:=⟨λg a=>(by rw[hxs] at a;cases a),λl=>by omega⟩
 have m:∀y:Cu,Apart y x:=λy=>⟨λg k r=>(by rw[hxs] at r;cases r),λg k l=>(by omega),λg k=>(by rw[hxs] at k;cases k)⟩;have f:Off x V'.ownBlock:=⟨λg a=>(by rw[hxs] at a;cases a),λl=>by omega⟩
 refine⟨hr,by rw[List.length_append,List.length_append,h.len];rfl,λi d=>?_,λi d=>?_,λi d=>?_,λi j d C u=>?_⟩
 all_goals simp only[List.length_append,List.length_cons,List.length_nil] at d
 ·rw[getD_snoc xs x cu0 i d,getD_snoc bk c cm0 i (by rw[← h.len];exact d)];by_cases q:i<xs.length
  ·rw[if_pos q,if_pos (by rw[← h.len];exact q)];exact(h.has i q).kept hg (h.off i q)
  ·rw[if_neg q,if_neg (by rw[← h.len];exact q)];exact hx.kept hg o
 ·rw[getD_snoc xs x cu0 i d];by_cases q:i<xs.length
  ·rw[if_pos q];exact n _ (h.off i q) (A i q) (B i q)
  ·rw[if_neg q];exact f
 ·rw[getD_snoc xs x cu0 i d];by_cases q:i<xs.length
  ·rw[if_pos q];exact h.self i q
  ·rw[if_neg q];intro g a;rw[hxs] at a;cases a
 ·simp only[List.length_append,List.length_cons,List.length_nil] at C;rw[getD_snoc xs x cu0 i d,getD_snoc xs x cu0 j C];by_cases q:i<xs.length<;>by_cases s:j<xs.length
  ·rw[if_pos q,if_pos s];exact h.apart i j q s u
  ·rw[if_pos q,if_neg s];exact m _
  ·rw[if_neg q,if_pos s];exact(m _).symm
  ·omega
theorem getD_put{α:Type}(l:List α)(x d:α)(k i:Nat)(hk:k<l.length):(l.set k x).getD i d=if i=k then x else l.getD i d:=by
 by_cases h:i=k
 ·subst h;rw[if_pos rfl];simp[List.getD,hk]
 ·rw[if_neg h];simp[List.getD,List.getElem?_set_ne (Ne.symm h)]
structure Turned (w w':World) (base:Nat) (x x':Cu) (c':Cm):Prop where
 grown:w.grownBy w' x.sold.ownBlock
 has:Has w' base x' c'
 own:∀g,x'.sold.ownBlock=some g→x.sold.ownBlock=some g∨w.heap.size≤g
 new:0<x'.dn→∀p,x'.dp=some p→w.heap.size≤p.block
 self:∀g,x'.sold.ownBlock=some g→0<x'.dn→∀p,x'.dp=some p→p.block≠g
theorem Holds.put{w w' w4:World}{k:Nat}{x':Cu}{c':Cm}(h:Holds w base V xs bk)(hk:k<xs.length)(ht:Turned w w' base (xs.getD k cu0) x' c')
  (hr:Lc w4 base V (xs.set k x')) (hg:w'.grownBy w4 V.ownBlock):Holds w4 base V (xs.set k x') (bk.set k c'):=by
 have A:k<bk.length:=by rw[← h.len];exact hk
 have r:∀i,i<xs.length→∀g,(xs.getD i cu0).sold.ownBlock=some g→g<w.heap.size:=λi a g c=>(World.ownsRow.lt (h.has i a).so g c).2
 have B:∀i,i<xs.length→0<(xs.getD i cu0).dn→∀p,(xs.getD i cu0).dp=some p→p.block<w.heap.size:=λi a d p f=>by
  obtain⟨b,E,e,D,_⟩:=(h.has i a).ds.came.row.at d;rw[f] at e;rw[Option.some.inj e];exact D
 have s:∀g,V.ownBlock=some g→g<w.heap.size:=λg c=>(World.ownsRow.lt h.row g c).2
 have m:Off x' V.ownBlock:=⟨fun g c q=>by
  rcases ht.own g c with e|e
  ·exact(h.off k hk).1 g e q
  ·have:=s g q;omega,λd p f q=>by
  have l:=ht.new d p f;have u:=s p.block q.symm
  omega⟩
 have n:∀i,i<xs.length→i≠k→Apart (xs.getD i cu0) x':=λi a o=>by
  refine⟨λg l u=>?_,λg l d p f q=>?_,λg l d p f q=>?_⟩
  ·rcases ht.own g u with e|e
   ·exact(h.apart i k a hk o).1 g l e
   ·have:=r i a g l;omega
  ·have F:=ht.new d p f;have G:=r i a g l;omega
  ·rcases ht.own g l with e|e
   ·exact(h.apart i k a hk o).2.2 g e d p f q
   ·have:=B i a d p f;omega
 refine⟨hr,by rw[List.length_set,List.length_set,h.len],λi a=>?_,λi a=>?_,λi a=>?_,λi j a z y=>?_⟩
 all_goals rw[List.length_set] at a
 ·rw[getD_put xs x' cu0 k i hk,getD_put bk c' cm0 k i A];by_cases q:i=k
  ·rw[if_pos q,if_pos q];exact ht.has.kept hg m
  ·rw[if_neg q,if_neg q];have C:=h.apart i k a hk q
   have t:Off (xs.getD i cu0) (xs.getD k cu0).sold.ownBlock:=⟨fun g l u=>C.1 g l u,fun d p f e=>by
    exact C.2.2 p.block e.symm d p f rfl⟩
   exact((h.has i a).kept ht.grown t).kept hg (h.off i a)
 ·rw[getD_put xs x' cu0 k i hk];by_cases q:i=k
  ·rw[if_pos q];exact m
  ·rw[if_neg q];exact h.off i a
 ·rw[getD_put xs x' cu0 k i hk];by_cases q:i=k
  ·rw[if_pos q];exact ht.self
  ·rw[if_neg q];exact h.self i a
 ·rw[List.length_set] at z;rw[getD_put xs x' cu0 k i hk,getD_put xs x' cu0 k j hk];by_cases q:i=k<;>by_cases x:j=k
  ·omega
  ·rw[if_pos q,if_neg x];exact(n j z x).symm
  ·rw[if_neg q,if_pos x];exact n i a q
  ·rw[if_neg q,if_neg x];exact h.apart i j a z y
structure Sees (w:World) (p:Option Addr) (n:Nat) (xs:List Cu) (bk:List Cm):Prop where
 row:RowC w p n xs
 len:xs.length=bk.length
 num:∀i,i<xs.length→Nums (xs.getD i cu0) (bk.getD i cm0).a
 ds:∀i,i<xs.length→tar.Came w (xs.getD i cu0).dp (xs.getD i cu0).dn (xs.getD i cu0).dc (bk.getD i cm0).a.ds
 so:∀i,i<xs.length→RowS w (xs.getD i cu0).sp (xs.getD i cu0).sn (bk.getD i cm0).so
theorem Sees.below{p:Option Addr}{n:Nat}(h:Sees w p n xs bk)(hb:zB w w'):Sees w' p n xs bk:=⟨h.row.below hb,h.len,h.num,λi a=>(h.ds i a).below hb,λi a=>(h.so i a).below hb⟩
theorem Holds.sees{w:World}(h:Holds w base V xs bk):∃p cap,V=.slice p xs.length cap∧Sees w p xs.length xs bk:=by
 obtain⟨p,cap,f,d,_,_⟩:=h.row.row;refine⟨p,cap,f,d,h.len,λi b=>(h.has i b).num,λi b=>(h.has i b).ds.came,λi b=>?_⟩;obtain⟨a,c,e,r,_⟩:=(h.has i b).so.row;unfold Cu.sold at e;injection e with e1 e2 _
 rw[e1,e2];exact r
end book
namespace acc
open tar (Du du0 Came RowD Ld PairT)
open Go.RowKit
theorem tfa0(t:Tm)(p:Option Addr)(len cap:Nat)(w:World)(h:RowD w p len t.ts)(hl:len≤maxLen)(hr:¬ tar.Right t.ts):Calls Tryz.prog 45 #[.agg #[.slice p len cap,zI t.ff,zI t.fb,zI t.db,zI t.al]] w λe w'=>tar.ErrPost w (TFault t) e w':=by
 obtain⟨j,n,i,g,c⟩:=sh1 w #[.slice p len cap,zI t.ff,zI t.fb,zI t.db,zI t.al] 24;have m:Hid (RowD j p len t.ts):=h.below g.o;have c0:j.cell? ⟨w.heap.size,0,none⟩=some (.slice p len cap):=i.o.cell 0;have l:Hid (zC 87 #[.slice p len cap] j λe w'=>tar.ErrPost j (tar.FaultIs t.ts) e w'):=tar.rfault p len cap t.ts _ m.o hl;have q:Hid (¬ tar.Right t.ts):=hr;clear h hl hr;go_enter Tryz.func45,Tryz.ntmps45;go_upto_region 1 with fail
 rw[n.o];go_wp2_with fail;refine l.o.mono ?_;rintro e d ⟨f,rfl,hf,b⟩;have k:Hid (zB w d):=g.o.trans (b.mono (Nat.le_of_lt c));have a:Hid (Blk d w.heap.size #[.slice p len cap,zI t.ff,zI t.fb,zI t.db,zI t.al] 24):=i.o.below b c;have u:d.cell? ⟨w.heap.size,1,none⟩=some (zI t.ff):=a.o.cell 1;have x:d.cell? ⟨w.heap.size,2,none⟩=some (zI t.fb):=a.o.cell 2;have y:d.cell? ⟨w.heap.size,3,none⟩=some (zI t.db):=a.o.cell 3;have z:d.cell? ⟨w.heap.size,4,none⟩=some (zI t.al):=a.o.cell 4;have r:Hid (tar.FaultIs t.ts f):=hf;have s:(f != 0)=true:=by simpa using λe=>q.o (hf.ok.1 e)
 clear hf b c0 c;go_wp2_with fail
 all_goals first
  |(rename_i q1 q2;exact absurd q1 (by simp[undef]))
  |(go_ret;exact⟨_,rfl,.inl ⟨q.o,r.o⟩,k.o⟩)
theorem tfa1(t:Tm)(p:Option Addr)(len cap:Nat)(w:World)(h:RowD w p len t.ts)(hl:len≤maxLen)(hr:tar.Right t.ts)(h1:¬ (0≤t.ff∧t.ff≤100000)):Calls Tryz.prog 45 #[.agg #[.slice p len cap,zI t.ff,zI t.fb,zI t.db,zI t.al]] w λe w'=>tar.ErrPost w (TFault t) e w':=by
 obtain⟨k,q,i,g,c⟩:=sh1 w #[.slice p len cap,zI t.ff,zI t.fb,zI t.db,zI t.al] 24;have n:Hid (RowD k p len t.ts):=h.below g.o;have c0:k.cell? ⟨w.heap.size,0,none⟩=some (.slice p len cap):=i.o.cell 0;have m:Hid (zC 87 #[.slice p len cap] k λe w'=>tar.ErrPost k (tar.FaultIs t.ts) e w'):=tar.rfault p len cap t.ts _ n.o hl;have j:Hid (∀W,zC 47 #[zI t.ff,zI 0,zI 100000] W λe w'=>e=.returned (.bool (decide (0≤t.ff∧t.ff≤100000)))∧w'=W):=λW=>cal.cin t.ff 0 100000 W;rw[decide_eq_false h1] at j;have u:Hid (¬ TOk t):=λx=>h1 x.1;have s:Hid (tar.Right t.ts):=hr;clear h hl hr h1;go_enter Tryz.func45,Tryz.ntmps45;go_upto_region 1 with fail
 rw[q.o];go_wp2_with fail;refine m.o.mono ?_;rintro e d ⟨f,rfl,hf,b⟩;have l:Hid (zB w d):=g.o.trans (b.mono (Nat.le_of_lt c));have a:Hid (Blk d w.heap.size #[.slice p len cap,zI t.ff,zI t.fb,zI t.db,zI t.al] 24):=i.o.below b c;have y:d.cell? ⟨w.heap.size,1,none⟩=some (zI t.ff):=a.o.cell 1;have z:d.cell? ⟨w.heap.size,2,none⟩=some (zI t.fb):=a.o.cell 2;have A:d.cell? ⟨w.heap.size,3,none⟩=some (zI t.db):=a.o.cell 3;have B:d.cell? ⟨w.heap.size,4,none⟩=some (zI t.al):=a.o.cell 4;obtain rfl:f=0:=hf.ok.2 s.o;clear hf b c0 c;go_wp2_with fail;refine(j.o _).mono ?_;rintro e C ⟨rfl,r⟩;subst r;go_wp2_with fail
 all_goals first
  |(rename_i q1 q2;exact absurd q1 (by simp[undef]))
  |(go_ret;exact⟨_,rfl,.inr (.inl ⟨s.o,u.o,rfl⟩),l.o⟩)
theorem tfa2(t:Tm)(p:Option Addr)(len cap:Nat)(w:World)(h:RowD w p len t.ts)(hl:len≤maxLen)(hr:tar.Right t.ts)(h1:0≤t.ff∧t.ff≤100000)(h2:¬ (0≤t.fb∧t.fb≤10000)):Calls Tryz.prog 45 #[.agg #[.slice p len cap,zI t.ff,zI t.fb,zI t.db,zI t.al]] w λe w'=>tar.ErrPost w (TFault t) e w':=by
 obtain⟨m,s,j,i,c⟩:=sh1 w #[.slice p len cap,zI t.ff,zI t.fb,zI t.db,zI t.al] 24;have r:Hid (RowD m p len t.ts):=h.below i.o;have c0:m.cell? ⟨w.heap.size,0,none⟩=some (.slice p len cap):=j.o.cell 0;have q:Hid (zC 87 #[.slice p len cap] m λe w'=>tar.ErrPost m (tar.FaultIs t.ts) e w'):=tar.rfault p len cap t.ts _ r.o hl;have k:Hid (∀W,zC 47 #[zI t.ff,zI 0,zI 100000] W λe w'=>e=.returned (.bool (decide (0≤t.ff∧t.ff≤100000)))∧w'=W):=λW=>cal.cin t.ff 0 100000 W;rw[decide_eq_true h1] at k;have l:Hid (∀W,zC 47 #[zI t.fb,zI 0,zI 10000] W λe w'=>e=.returned (.bool (decide (0≤t.fb∧t.fb≤10000)))∧w'=W):=λW=>cal.cin t.fb 0 10000 W;rw[decide_eq_false h2] at l;have x:Hid (¬ TOk t):=λy=>h2 y.2.1;have u:Hid (tar.Right t.ts):=hr;clear h hl hr h1 h2;go_enter Tryz.func45,Tryz.ntmps45;go_upto_region 1 with fail
 rw[s.o];go_wp2_with fail;refine q.o.mono ?_;rintro e g ⟨f,rfl,hf,b⟩;have n:Hid (zB w g):=i.o.trans (b.mono (Nat.le_of_lt c));have a:Hid (Blk g w.heap.size #[.slice p len cap,zI t.ff,zI t.fb,zI t.db,zI t.al] 24):=j.o.below b c;have A:g.cell? ⟨w.heap.size,1,none⟩=some (zI t.ff):=a.o.cell 1;have B:g.cell? ⟨w.heap.size,2,none⟩=some (zI t.fb):=a.o.cell 2;have C:g.cell? ⟨w.heap.size,3,none⟩=some (zI t.db):=a.o.cell 3;have D:g.cell? ⟨w.heap.size,4,none⟩=some (zI t.al):=a.o.cell 4;obtain rfl:f=0:=hf.ok.2 u.o;clear hf b c0 c;go_wp2_with fail;refine(k.o _).mono ?_;rintro e z ⟨rfl,d⟩;subst d;go_wp2_with fail;refine(l.o _).mono ?_;rintro e z ⟨rfl,d⟩;subst d;go_wp2_with fail
 all_goals first
  |(rename_i q1 q2;exact absurd q1 (by simp[undef]))
  |(go_ret;exact⟨_,rfl,.inr (.inl ⟨u.o,x.o,rfl⟩),n.o⟩)
theorem tfa3(t:Tm)(p:Option Addr)(len cap:Nat)(w:World)(h:RowD w p len t.ts)(hl:len≤maxLen)(hr:tar.Right t.ts)(h1:0≤t.ff∧t.ff≤100000)(h2:0≤t.fb∧t.fb≤10000)(h3:¬ (0≤t.db∧t.db≤10000)):Calls Tryz.prog 45 #[.agg #[.slice p len cap,zI t.ff,zI t.fb,zI t.db,zI t.al]] w λe w'=>tar.ErrPost w (TFault t) e w':=by
 obtain⟨n,u,j,i,d⟩:=sh1 w #[.slice p len cap,zI t.ff,zI t.fb,zI t.db,zI t.al] 24;have s:Hid (RowD n p len t.ts):=h.below i.o;have c0:n.cell? ⟨w.heap.size,0,none⟩=some (.slice p len cap):=j.o.cell 0;have r:Hid (zC 87 #[.slice p len cap] n λe w'=>tar.ErrPost n (tar.FaultIs t.ts) e w'):=tar.rfault p len cap t.ts _ s.o hl;have k:Hid (∀W,zC 47 #[zI t.ff,zI 0,zI 100000] W λe w'=>e=.returned (.bool (decide (0≤t.ff∧t.ff≤100000)))∧w'=W):=λW=>cal.cin t.ff 0 100000 W;rw[decide_eq_true h1] at k;have l:Hid (∀W,zC 47 #[zI t.fb,zI 0,zI 10000] W λe w'=>e=.returned (.bool (decide (0≤t.fb∧t.fb≤10000)))∧w'=W):=λW=>cal.cin t.fb 0 10000 W;rw[decide_eq_true h2] at l;have m:Hid (∀W,zC 47 #[zI t.db,zI 0,zI 10000] W λe w'=>e=.returned (.bool (decide (0≤t.db∧t.db≤10000)))∧w'=W):=λW=>cal.cin t.db 0 10000 W;rw[decide_eq_false h3] at m;have z:Hid (¬ TOk t):=λA=>h3 A.2.2.1;have x:Hid (tar.Right t.ts):=hr;clear h hl hr h1 h2 h3;go_enter Tryz.func45,Tryz.ntmps45;go_upto_region 1 with fail
 rw[u.o];go_wp2_with fail;refine r.o.mono ?_;rintro e g ⟨f,rfl,hf,c⟩;have q:Hid (zB w g):=i.o.trans (c.mono (Nat.le_of_lt d));have b:Hid (Blk g w.heap.size #[.slice p len cap,zI t.ff,zI t.fb,zI t.db,zI t.al] 24):=j.o.below c d;have B:g.cell? ⟨w.heap.size,1,none⟩=some (zI t.ff):=b.o.cell 1;have C:g.cell? ⟨w.heap.size,2,none⟩=some (zI t.fb):=b.o.cell 2;have D:g.cell? ⟨w.heap.size,3,none⟩=some (zI t.db):=b.o.cell 3;have E:g.cell? ⟨w.heap.size,4,none⟩=some (zI t.al):=b.o.cell 4;obtain rfl:f=0:=hf.ok.2 x.o;clear hf c c0 d;go_wp2_with fail;refine(k.o _).mono ?_;rintro e y ⟨rfl,a⟩;subst a;go_wp2_with fail;refine(l.o _).mono ?_;rintro e y ⟨rfl,a⟩;subst a;go_wp2_with fail;refine(m.o _).mono ?_;rintro e y ⟨rfl,a⟩;subst a;go_wp2_with fail
 all_goals first
  |(rename_i q1 q2;exact absurd q1 (by simp[undef]))
  |(go_ret;exact⟨_,rfl,.inr (.inl ⟨x.o,z.o,rfl⟩),q.o⟩)
theorem tfa4(t:Tm)(p:Option Addr)(len cap:Nat)(w:World)(h:RowD w p len t.ts)(hl:len≤maxLen)(hr:tar.Right t.ts)(h1:0≤t.ff∧t.ff≤100000)(h2:0≤t.fb∧t.fb≤10000)(h3:0≤t.db∧t.db≤10000)(h4:¬ (0≤t.al∧t.al≤2097151)):Calls Tryz.prog 45 #[.agg #[.slice p len cap,zI t.ff,zI t.fb,zI t.db,zI t.al]] w λe w'=>tar.ErrPost w (TFault t) e w':=by
 obtain⟨q,x,j,i,d⟩:=sh1 w #[.slice p len cap,zI t.ff,zI t.fb,zI t.db,zI t.al] 24;have u:Hid (RowD q p len t.ts):=h.below i.o;have c0:q.cell? ⟨w.heap.size,0,none⟩=some (.slice p len cap):=j.o.cell 0;have s:Hid (zC 87 #[.slice p len cap] q λe w'=>tar.ErrPost q (tar.FaultIs t.ts) e w'):=tar.rfault p len cap t.ts _ u.o hl;have k:Hid (∀W,zC 47 #[zI t.ff,zI 0,zI 100000] W λe w'=>e=.returned (.bool (decide (0≤t.ff∧t.ff≤100000)))∧w'=W):=λW=>cal.cin t.ff 0 100000 W;rw[decide_eq_true h1] at k;have l:Hid (∀W,zC 47 #[zI t.fb,zI 0,zI 10000] W λe w'=>e=.returned (.bool (decide (0≤t.fb∧t.fb≤10000)))∧w'=W):=λW=>cal.cin t.fb 0 10000 W;rw[decide_eq_true h2] at l;have m:Hid (∀W,zC 47 #[zI t.db,zI 0,zI 10000] W λe w'=>e=.returned (.bool (decide (0≤t.db∧t.db≤10000)))∧w'=W):=λW=>cal.cin t.db 0 10000 W;rw[decide_eq_true h3] at m;have n:Hid (∀W,zC 47 #[zI t.al,zI 0,zI 2097151] W λe w'=>e=.returned (.bool (decide (0≤t.al∧t.al≤2097151)))∧w'=W):=λW=>cal.cin t.al 0 2097151 W;rw[decide_eq_false h4] at n;have A:Hid (¬ TOk t):=λB=>h4 B.2.2.2;have z:Hid (tar.Right t.ts):=hr;clear h hl hr h1 h2 h3 h4;go_enter Tryz.func45,Tryz.ntmps45;go_upto_region 1 with fail
 rw[x.o];go_wp2_with fail;refine s.o.mono ?_;rintro e g ⟨f,rfl,hf,c⟩;have r:Hid (zB w g):=i.o.trans (c.mono (Nat.le_of_lt d));have b:Hid (Blk g w.heap.size #[.slice p len cap,zI t.ff,zI t.fb,zI t.db,zI t.al] 24):=j.o.below c d;have C:g.cell? ⟨w.heap.size,1,none⟩=some (zI t.ff):=b.o.cell 1;have D:g.cell? ⟨w.heap.size,2,none⟩=some (zI t.fb):=b.o.cell 2;have E:g.cell? ⟨w.heap.size,3,none⟩=some (zI t.db):=b.o.cell 3;have F:g.cell? ⟨w.heap.size,4,none⟩=some (zI t.al):=b.o.cell 4;obtain rfl:f=0:=hf.ok.2 z.o;clear hf c c0 d;go_wp2_with fail;refine(k.o _).mono ?_;rintro e y ⟨rfl,a⟩;subst a;go_wp2_with fail;refine(l.o _).mono ?_;rintro e y ⟨rfl,a⟩;subst a;go_wp2_with fail;refine(m.o _).mono ?_;rintro e y ⟨rfl,a⟩;subst a;go_wp2_with fail;refine(n.o _).mono ?_;rintro e y ⟨rfl,a⟩;subst a;go_wp2_with fail
 all_goals first
  |(rename_i q1 q2;exact absurd q1 (by simp[undef]))
  |(go_ret;exact⟨_,rfl,.inr (.inl ⟨z.o,A.o,rfl⟩),r.o⟩)
theorem tfa5(t:Tm)(p:Option Addr)(len cap:Nat)(w:World)(h:RowD w p len t.ts)(hl:len≤maxLen)(hr:tar.Right t.ts)(h1:0≤t.ff∧t.ff≤100000)(h2:0≤t.fb∧t.fb≤10000)(h3:0≤t.db∧t.db≤10000)(h4:0≤t.al∧t.al≤2097151):Calls Tryz.prog 45 #[.agg #[.slice p len cap,zI t.ff,zI t.fb,zI t.db,zI t.al]] w λe w'=>tar.ErrPost w (TFault t) e w':=by
 obtain⟨q,x,j,i,d⟩:=sh1 w #[.slice p len cap,zI t.ff,zI t.fb,zI t.db,zI t.al] 24;have u:Hid (RowD q p len t.ts):=h.below i.o;have c0:q.cell? ⟨w.heap.size,0,none⟩=some (.slice p len cap):=j.o.cell 0;have s:Hid (zC 87 #[.slice p len cap] q λe w'=>tar.ErrPost q (tar.FaultIs t.ts) e w'):=tar.rfault p len cap t.ts _ u.o hl;have k:Hid (∀W,zC 47 #[zI t.ff,zI 0,zI 100000] W λe w'=>e=.returned (.bool (decide (0≤t.ff∧t.ff≤100000)))∧w'=W):=λW=>cal.cin t.ff 0 100000 W;rw[decide_eq_true h1] at k;have l:Hid (∀W,zC 47 #[zI t.fb,zI 0,zI 10000] W λe w'=>e=.returned (.bool (decide (0≤t.fb∧t.fb≤10000)))∧w'=W):=λW=>cal.cin t.fb 0 10000 W;rw[decide_eq_true h2] at l;have m:Hid (∀W,zC 47 #[zI t.db,zI 0,zI 10000] W λe w'=>e=.returned (.bool (decide (0≤t.db∧t.db≤10000)))∧w'=W):=λW=>cal.cin t.db 0 10000 W;rw[decide_eq_true h3] at m;have n:Hid (∀W,zC 47 #[zI t.al,zI 0,zI 2097151] W λe w'=>e=.returned (.bool (decide (0≤t.al∧t.al≤2097151)))∧w'=W):=λW=>cal.cin t.al 0 2097151 W;rw[decide_eq_true h4] at n;have A:Hid (TOk t):=⟨h1,h2,h3,h4⟩
 have z:Hid (tar.Right t.ts):=hr;clear h hl hr h1 h2 h3 h4;go_enter Tryz.func45,Tryz.ntmps45;go_upto_region 1 with fail
 rw[x.o];go_wp2_with fail;refine s.o.mono ?_;rintro e g ⟨f,rfl,hf,c⟩;have r:Hid (zB w g):=i.o.trans (c.mono (Nat.le_of_lt d));have b:Hid (Blk g w.heap.size #[.slice p len cap,zI t.ff,zI t.fb,zI t.db,zI t.al] 24):=j.o.below c d;have B:g.cell? ⟨w.heap.size,1,none⟩=some (zI t.ff):=b.o.cell 1;have C:g.cell? ⟨w.heap.size,2,none⟩=some (zI t.fb):=b.o.cell 2;have D:g.cell? ⟨w.heap.size,3,none⟩=some (zI t.db):=b.o.cell 3;have E:g.cell? ⟨w.heap.size,4,none⟩=some (zI t.al):=b.o.cell 4;obtain rfl:f=0:=hf.ok.2 z.o;clear hf c c0 d;go_wp2_with fail;refine(k.o _).mono ?_;rintro e y ⟨rfl,a⟩;subst a;go_wp2_with fail;refine(l.o _).mono ?_;rintro e y ⟨rfl,a⟩;subst a;go_wp2_with fail;refine(m.o _).mono ?_;rintro e y ⟨rfl,a⟩;subst a;go_wp2_with fail;refine(n.o _).mono ?_;rintro e y ⟨rfl,a⟩;subst a;go_wp2_with fail
 all_goals first
  |(rename_i q1 q2;exact absurd q1 (by simp[undef]))
  |(go_ret;exact⟨_,rfl,.inr (.inr ⟨⟨z.o,A.o⟩,rfl⟩),r.o⟩)
theorem rterms(t:Tm)(p:Option Addr)(len cap:Nat)(w:World)(h:RowD w p len t.ts)(hl:len≤maxLen):Calls Tryz.prog 45 #[.agg #[.slice p len cap,zI t.ff,zI t.fb,zI t.db,zI t.al]] w λe w'=>tar.ErrPost w (TFault t) e w':=by
 by_cases a:tar.Right t.ts
 ·by_cases b:0≤t.ff∧t.ff≤100000
  ·by_cases c:0≤t.fb∧t.fb≤10000
   ·by_cases d:0≤t.db∧t.db≤10000
    ·by_cases f:0≤t.al∧t.al≤2097151
     ·exact tfa5 t p len cap w h hl a b c d f
     ·exact tfa4 t p len cap w h hl a b c d f
    ·exact tfa3 t p len cap w h hl a b c d
   ·exact tfa2 t p len cap w h hl a b c
  ·exact tfa1 t p len cap w h hl a b
 ·exact tfa0 t p len cap w h hl a
end acc
end Go.Proofs.YtoepgdhiepedeaaGreatDoor
