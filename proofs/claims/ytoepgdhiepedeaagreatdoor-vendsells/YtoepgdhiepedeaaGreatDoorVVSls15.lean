import Derived.Test.YtoepgdhiepedeaaGreatDoorVVSls13
import Derived.Test.YtoepgdhiepedeaaGreatDoorVVSls14
set_option linter.unusedVariables false
set_option linter.unusedSimpArgs false
set_option maxHeartbeats 4000000
set_option maxRecDepth 100000
namespace Go.Proofs.YtoepgdhiepedeaaGreatDoor
namespace acc
open tar (Du du0 Came RowD Ld PairT)
open Go.RowKit
theorem rrolled(x:Ac)(p:Option Addr)(len cap:Nat)(m:Int)(w:World)(h:RowD w p len x.ds)(hl:len≤maxLen):Calls Tryz.prog 46 #[.agg #[zI x.me,zI x.rv,zI x.nx,zI x.mo,zI x.bo,zI x.fr,.slice p len cap],zI m] w λe w'=>APost w (RollIs x m) e w':=by
 have O:Hid (Blk ((w.alloc (.cells #[zI x.me,zI x.rv,zI x.nx,zI x.mo,zI x.bo,zI x.fr,.slice p len cap] 55)).alloc (.cells #[zI 0,zI 0,zI 0,zI 0,zI 0,zI 0,zS] 55)) w.heap.size #[zI x.me,zI x.rv,zI x.nx,zI x.mo,zI x.bo,zI x.fr,.slice p len cap] 55):=(Blk.new w _ _).alloc _;have A:Hid (Blk ((w.alloc (.cells #[zI x.me,zI x.rv,zI x.nx,zI x.mo,zI x.bo,zI x.fr,.slice p len cap] 55)).alloc (.cells #[zI 0,zI 0,zI 0,zI 0,zI 0,zI 0,zS] 55)) (w.heap.size+1) #[zI 0,zI 0,zI 0,zI 0,zI 0,zI 0,zS] 55):=Blk.new1 w _ _ _;have z:Hid (zB w ((w.alloc (.cells #[zI x.me,zI x.rv,zI x.nx,zI x.mo,zI x.bo,zI x.fr,.slice p len cap] 55)).alloc (.cells #[zI 0,zI 0,zI 0,zI 0,zI 0,zI 0,zS] 55))):=((Below.refl w.heap.size w).alloc (by simp) _).alloc (by simp) _;have i:=zh (h.below z.o);have u:=A.o.lt;have s:Hid (∀W,zC 47 #[zI m,zI 0,zI 2399] W λe w'=>e=.returned (.bool (decide (0≤m∧m≤2399)))∧w'=W):=λW=>cal.cin m 0 2399 W;by_cases y:AMay x
 ·have J:=y.2.2.2.2.1;have j:=y.1;have E:Hid (zC 44 #[.agg #[zI x.me,zI x.rv,zI x.nx,zI x.mo,zI x.bo,zI x.fr,.slice p len cap]] ((w.alloc (.cells #[zI x.me,zI x.rv,zI x.nx,zI x.mo,zI x.bo,zI x.fr,.slice p len cap] 55)).alloc (.cells #[zI 0,zI 0,zI 0,zI 0,zI 0,zI 0,zS] 55)) λe w'=>e=.returned (.bool true)∧Below ((w.alloc (.cells #[zI x.me,zI x.rv,zI x.nx,zI x.mo,zI x.bo,zI x.fr,.slice p len cap] 55)).alloc (.cells #[zI 0,zI 0,zI 0,zI 0,zI 0,zI 0,zS] 55)).heap.size ((w.alloc (.cells #[zI x.me,zI x.rv,zI x.nx,zI x.mo,zI x.bo,zI x.fr,.slice p len cap] 55)).alloc (.cells #[zI 0,zI 0,zI 0,zI 0,zI 0,zI 0,zS] 55)) w'):=ramay x p len cap _ i.o hl y;have L:=zh y;clear h y;generalize n:((w.alloc (.cells #[zI x.me,zI x.rv,zI x.nx,zI x.mo,zI x.bo,zI x.fr,.slice p len cap] 55)).alloc (.cells #[zI 0,zI 0,zI 0,zI 0,zI 0,zI 0,zS] 55))=W2 at *;have H:=zh n;clear n;go_enter Tryz.func46,Tryz.ntmps46;go_upto_region 1 with fail
  rw[H.o];go_wp2_with refine zw ?_;refine E.o.mono ?_;rintro e w1 ⟨rfl,d⟩;have r:=zh (O.o.below d (by omega));have P:=zh (A.o.below d (by omega));have l:=shB z d;have B:=zh (i.o.below d);have aq:w.heap.size+1<w1.heap.size:=Nat.lt_of_lt_of_le u d.size;clear d u;by_cases t:0≤m∧m≤2399
  ·rw[decide_eq_true t] at s;go_wp2_with fail;refine(s.o _).mono ?_;rintro e w2 ⟨rfl,K⟩;subst K;have Y:=zy3 r;have c6:=zy6 r;by_cases S:m<x.mo
   ·have an:decide (m<x.mo)=true:=decide_eq_true S;have F:Hid (RollIs x m ac0 23):=.inr (.inl ⟨L.o,λhh=>by have:=hh.2;omega,.inr ⟨t,S,rfl⟩,rfl⟩);clear t S J j;go_wp2_with refine zs ?_;intro M c;have b:=zyb c;have f:=zk c l;clear c;go_wp2_with fail;exact zr (.tuple #[.agg #[zI 0,zI 0,zI 0,zI 0,zI 0,zI 0,zS],zI 23]) (by simp[results,Tryz.results46,scl7 b,go_sem]) ⟨ac0,none,0,0,_,rfl,F.o,deb.fresh_nil _ _,f.o⟩
   ·have an:decide (m<x.mo)=false:=decide_eq_false S;have ak:=zh (rcopy x p len cap w2 B.o j);have R:Hid (RMay x m):=⟨t,by omega⟩
    go_wp2_with refine zw ?_;refine ak.o.mono ?_;rintro e k ⟨g,a,rfl,T,q⟩;unfold Ac.v Ac.cs;obtain⟨a2,a3⟩:=zn2 q r P;have Z:=shB l q;have a1:=zh (B.o.below q);have a0:=zh T;have ay:=q.size;have az:=(Blk.new k #[zI x.me,zI x.rv,zI x.nx,zI x.mo,zI x.bo,zI x.fr,.slice g len a] 55).lt;have a6:=zye k #[zI x.me,zI x.rv,zI x.nx,zI x.mo,zI x.bo,zI x.fr,.slice g len a] 55;have C:=zya a2 (.cells #[zI x.me,zI x.rv,zI x.nx,zI x.mo,zI x.bo,zI x.fr,.slice g len a] 55);have a7:=zya a3 (.cells #[zI x.me,zI x.rv,zI x.nx,zI x.mo,zI x.bo,zI x.fr,.slice g len a] 55);have Q:=zyf Z (.cells #[zI x.me,zI x.rv,zI x.nx,zI x.mo,zI x.bo,zI x.fr,.slice g len a] 55);have a5:Hid (RowD (k.alloc (.cells #[zI x.me,zI x.rv,zI x.nx,zI x.mo,zI x.bo,zI x.fr,.slice g len a] 55)) p len x.ds):=a1.o.below ((Below.refl k.heap.size k).alloc zc _);have a4:Hid (deb.Fresh (k.alloc (.cells #[zI x.me,zI x.rv,zI x.nx,zI x.mo,zI x.bo,zI x.fr,.slice g len a] 55)) w2.heap.size g len a x.ds):=a0.o.below ((Below.refl k.heap.size k).alloc zc _);clear T q Y c6;by_cases N:m=x.mo
    ·have ao:(m==x.mo)=true:=by simpa using N
     have G:Hid (RollIs x m x 0):=.inr (.inr ⟨L.o,R.o,by unfold rolled;rw[if_pos N],rfl⟩);have Y:=C.o.cell 3;clear N t S J j;go_upto_region 8 with fail
     generalize (k.alloc (.cells #[zI x.me,zI x.rv,zI x.nx,zI x.mo,zI x.bo,zI x.fr,.slice g len a] 55))=W4 at *;go_wp2_with (first|refine zw ?_|refine zs ?_)
     intro M c;have b:=zyb c;have f:=zk c Q;have D:Hid (deb.Fresh M w.heap.size g len a x.ds):=(fresh_upd a4.o c (by omega)).low (by omega);clear c;go_wp2_with fail;exact zr (.tuple #[.agg #[zI x.me,zI x.rv,zI x.nx,zI x.mo,zI x.bo,zI x.fr,.slice g len a],zI 0]) (by simp[results,Tryz.results46,zy0 b,zy1 b,zy2 b,zy3 b,zy4 b,zy5 b,zy6 b,go_sem]) ⟨x,g,len,a,_,rfl,G.o,D.o,f.o⟩
    ·have ao:(m==x.mo)=false:=by simpa using N
     have ap:((m-x.mo).toNat:Int)=m-x.mo:=by omega
     have G:Hid (rolled x m=⟨x.me,x.rv,x.nx,m,0,x.fr,deb.ageAll x.ds (m-x.mo).toNat⟩):=by show _=_;unfold rolled;rw[if_neg N]
     have aj:Hid (zC 88 #[.slice p len cap,zI (m-x.mo)] (k.alloc (.cells #[zI x.me,zI x.rv,zI x.nx,zI x.mo,zI x.bo,zI x.fr,.slice g len a] 55)) λe w'=>deb.AgePost (k.alloc (.cells #[zI x.me,zI x.rv,zI x.nx,zI x.mo,zI x.bo,zI x.fr,.slice g len a] 55)) x.ds (m-x.mo) e w'):=deb.rages p len cap x.ds (m-x.mo) _ a5.o hl;have X:0≤m-x.mo∧m-x.mo≤2400:=by omega
     have al:=zh j;have am:=zh X;have Y:=C.o.cell 3;have c6:=C.o.cell 6;clear N j X ap;go_upto_region 8 with fail
     generalize (k.alloc (.cells #[zI x.me,zI x.rv,zI x.nx,zI x.mo,zI x.bo,zI x.fr,.slice g len a] 55))=W4 at *;go_wp2_with fail;refine aj.o.mono ?_;rintro e w5 ⟨p5,n5,c5,z5,f5,rfl,V,U,I⟩;obtain⟨rfl,rfl⟩:=V.got al.o am.o;obtain⟨ar,aa⟩:=zn2 I a6 a7;have a8:=shB Q I;have a9:=zh U;clear V U I Y c6;go_wp2_with refine zm ?_;intro W6 c;have au:=zyb c;have ad:=zk1 c aa;have ab:=zk c a8;have ac:=zh (fresh_upd a9.o c (by omega));clear c;go_wp2_with refine zl ?_;intro W7 c;have av:=zyb c;have ag:=zk1 c ad;have ae:=zk c ab;have af:=zh (fresh_upd ac.o c (by omega));clear c;go_wp2_with refine zl ?_;intro W8 c;have aw:=zyb c;have ax:=zk1 c ag;have ah:=zk c ae;have ai:=zh (fresh_upd af.o c (by omega));clear c;go_wp2_with (first|refine zw ?_|refine zs ?_)
     intro M c;have b:=zyb c;have f:=zk c ah;have D:Hid (deb.Fresh M w.heap.size p5 n5 c5 (deb.ageAll x.ds (m-x.mo).toNat)):=(fresh_upd ai.o c (by omega)).low (by omega);clear c;go_wp2_with fail;exact zr (.tuple #[.agg #[zI x.me,zI x.rv,zI x.nx,zI m,zI 0,zI x.fr,.slice p5 n5 c5],zI 0]) (by simp[results,Tryz.results46,zy0 b,zy1 b,zy2 b,zy3 b,zy4 b,zy5 b,zy6 b,go_sem]) ⟨⟨x.me,x.rv,x.nx,m,0,x.fr,deb.ageAll x.ds (m-x.mo).toNat⟩,p5,n5,c5,_,rfl,.inr (.inr ⟨L.o,R.o,G.o.symm,rfl⟩),D.o,f.o⟩
  ·rw[decide_eq_false t] at s;have F:Hid (RollIs x m ac0 2):=.inr (.inl ⟨L.o,λhh=>t hh.1,.inl ⟨t,rfl⟩,rfl⟩);clear t J j;go_wp2_with fail;refine(s.o _).mono ?_;rintro e w2 ⟨rfl,K⟩;subst K;go_wp2_with refine zs ?_;intro M c;have b:=zyb c;have f:=zk c l;clear c;go_wp2_with fail;exact zr (.tuple #[.agg #[zI 0,zI 0,zI 0,zI 0,zI 0,zI 0,zS],zI 2]) (by simp[results,Tryz.results46,scl7 b,go_sem]) ⟨ac0,none,0,0,_,rfl,F.o,deb.fresh_nil _ _,f.o⟩
 ·skip
  have E:Hid (zC 44 #[.agg #[zI x.me,zI x.rv,zI x.nx,zI x.mo,zI x.bo,zI x.fr,.slice p len cap]] ((w.alloc (.cells #[zI x.me,zI x.rv,zI x.nx,zI x.mo,zI x.bo,zI x.fr,.slice p len cap] 55)).alloc (.cells #[zI 0,zI 0,zI 0,zI 0,zI 0,zI 0,zS] 55)) λe w'=>e=.returned (.bool false)∧Below ((w.alloc (.cells #[zI x.me,zI x.rv,zI x.nx,zI x.mo,zI x.bo,zI x.fr,.slice p len cap] 55)).alloc (.cells #[zI 0,zI 0,zI 0,zI 0,zI 0,zI 0,zS] 55)).heap.size ((w.alloc (.cells #[zI x.me,zI x.rv,zI x.nx,zI x.mo,zI x.bo,zI x.fr,.slice p len cap] 55)).alloc (.cells #[zI 0,zI 0,zI 0,zI 0,zI 0,zI 0,zS] 55)) w'):=ranot x p len cap _ i.o hl y;have L:=zh y;clear h y;generalize n:((w.alloc (.cells #[zI x.me,zI x.rv,zI x.nx,zI x.mo,zI x.bo,zI x.fr,.slice p len cap] 55)).alloc (.cells #[zI 0,zI 0,zI 0,zI 0,zI 0,zI 0,zS] 55))=W2 at *;have H:=zh n;clear n;go_enter Tryz.func46,Tryz.ntmps46;go_upto_region 1 with fail
  rw[H.o];go_wp2_with refine zw ?_;refine E.o.mono ?_;rintro e w1 ⟨rfl,d⟩;have r:=zh (O.o.below d (by omega));have P:=zh (A.o.below d (by omega));have l:=shB z d;have B:=zh (i.o.below d);have aq:w.heap.size+1<w1.heap.size:=Nat.lt_of_lt_of_le u d.size;clear d u;go_wp2_with refine zs ?_;intro M c;have b:=zyb c;have f:=zk c l;clear c;go_wp2_with fail;exact zr (.tuple #[.agg #[zI 0,zI 0,zI 0,zI 0,zI 0,zI 0,zS],zI 5]) (by simp[results,Tryz.results46,scl7 b,go_sem]) ⟨ac0,none,0,0,_,rfl,.inl ⟨L.o,rfl,rfl⟩,deb.fresh_nil _ _,f.o⟩
theorem tfa0(t:Tm)(p:Option Addr)(len cap:Nat)(w:World)(h:RowD w p len t.ts)(hl:len≤maxLen)(hr:¬ tar.Right t.ts):Calls Tryz.prog 45 #[.agg #[.slice p len cap,zI t.ff,zI t.fb,zI t.db,zI t.al]] w λe w'=>tar.ErrPost w (TFault t) e w':=by
 obtain⟨j,n,i,g,c⟩:=sh1 w #[.slice p len cap,zI t.ff,zI t.fb,zI t.db,zI t.al] 24;have m:Hid (RowD j p len t.ts):=h.below g.o;have c0:j.cell? ⟨w.heap.size,0,none⟩=some (.slice p len cap):=i.o.cell 0;have l:Hid (zC 87 #[.slice p len cap] j λe w'=>tar.ErrPost j (tar.FaultIs t.ts) e w'):=tar.rfault p len cap t.ts _ m.o hl;have q:Hid (¬ tar.Right t.ts):=hr;clear h hl hr;go_enter Tryz.func45,Tryz.ntmps45;go_upto_region 1 with fail
 rw[n.o];go_wp2_with fail;refine l.o.mono ?_;rintro e d ⟨f,rfl,hf,b⟩;have k:Hid (zB w d):=g.o.trans (b.mono (Nat.le_of_lt c));have a:Hid (Blk d w.heap.size #[.slice p len cap,zI t.ff,zI t.fb,zI t.db,zI t.al] 24):=i.o.below b c;have u:d.cell? ⟨w.heap.size,1,none⟩=some (zI t.ff):=a.o.cell 1;have x:d.cell? ⟨w.heap.size,2,none⟩=some (zI t.fb):=a.o.cell 2;have y:d.cell? ⟨w.heap.size,3,none⟩=some (zI t.db):=a.o.cell 3;have z:d.cell? ⟨w.heap.size,4,none⟩=some (zI t.al):=a.o.cell 4;have r:Hid (tar.FaultIs t.ts f):=hf;have s:(f != 0)=true:=by simpa using λe=>q.o (hf.ok.1 e)
 clear hf b c0 c;go_wp2_with fail
 all_goals first
  |(rename_i q1 q2;exact absurd q1 (by simp[undef]))
  |(go_ret;exact⟨_,rfl,.inl ⟨q.o,r.o⟩,k.o⟩)
theorem tfa1(t:Tm)(p:Option Addr)(len cap:Nat)(w:World)(h:RowD w p len t.ts)(hl:len≤maxLen)(hr:tar.Right t.ts)(h1:¬ (0≤t.ff∧t.ff≤100000)):Calls Tryz.prog 45 #[.agg #[.slice p len cap,zI t.ff,zI t.fb,zI t.db,zI t.al]] w λe w'=>tar.ErrPost w (TFault t) e w':=by
 obtain⟨k,q,i,g,c⟩:=sh1 w #[.slice p len cap,zI t.ff,zI t.fb,zI t.db,zI t.al] 24;have n:Hid (RowD k p len t.ts):=h.below g.o;have c0:k.cell? ⟨w.heap.size,0,none⟩=some (.slice p len cap):=i.o.cell 0;have m:Hid (zC 87 #[.slice p len cap] k λe w'=>tar.ErrPost k (tar.FaultIs t.ts) e w'):=tar.rfault p len cap t.ts _ n.o hl;have j:Hid (∀W,zC 47 #[zI t.ff,zI 0,zI 100000] W λe w'=>e=.returned (.bool (decide (0≤t.ff∧t.ff≤100000)))∧w'=W):=λW=>cal.cin t.ff 0 100000 W;rw[decide_eq_false h1] at j;have u:Hid (¬ TOk t):=λx=>h1 x.1;have s:Hid (tar.Right t.ts):=hr;clear h hl hr h1;go_enter Tryz.func45,Tryz.ntmps45;go_upto_region 1 with fail
 rw[q.o];go_wp2_with fail;refine m.o.mono ?_;rintro e d ⟨f,rfl,hf,b⟩;have l:Hid (zB w d):=g.o.trans (b.mono (Nat.le_of_lt c));have a:Hid (Blk d w.heap.size #[.slice p len cap,zI t.ff,zI t.fb,zI t.db,zI t.al] 24):=i.o.below b c;have y:d.cell? ⟨w.heap.size,1,none⟩=some (zI t.ff):=a.o.cell 1;have z:d.cell? ⟨w.heap.size,2,none⟩=some (zI t.fb):=a.o.cell 2;have A:d.cell? ⟨w.heap.size,3,none⟩=some (zI t.db):=a.o.cell 3;have B:d.cell? ⟨w.heap.size,4,none⟩=some (zI t.al):=a.o.cell 4;obtain rfl:f=0:=hf.ok.2 s.o;clear hf b c0 c;go_wp2_with fail;refine(j.o _).mono ?_;rintro e C ⟨rfl,r⟩;subst r;go_wp2_with fail
 all_goals first
  |(rename_i q1 q2;exact absurd q1 (by simp[undef]))
  |(go_ret;exact⟨_,rfl,.inr (.inl ⟨s.o,u.o,rfl⟩),l.o⟩)
theorem tfa2(t:Tm)(p:Option Addr)(len cap:Nat)(w:World)(h:RowD w p len t.ts)(hl:len≤maxLen)(hr:tar.Right t.ts)(h1:0≤t.ff∧t.ff≤100000)(h2:¬ (0≤t.fb∧t.fb≤10000)):Calls Tryz.prog 45 #[.agg #[.slice p len cap,zI t.ff,zI t.fb,zI t.db,zI t.al]] w λe w'=>tar.ErrPost w (TFault t) e w':=by
 obtain⟨m,s,j,i,c⟩:=sh1 w #[.slice p len cap,zI t.ff,zI t.fb,zI t.db,zI t.al] 24;have r:Hid (RowD m p len t.ts):=h.below i.o;have c0:m.cell? ⟨w.heap.size,0,none⟩=some (.slice p len cap):=j.o.cell 0;have q:Hid (zC 87 #[.slice p len cap] m λe w'=>tar.ErrPost m (tar.FaultIs t.ts) e w'):=tar.rfault p len cap t.ts _ r.o hl;have k:Hid (∀W,zC 47 #[zI t.ff,zI 0,zI 100000] W λe w'=>e=.returned (.bool (decide (0≤t.ff∧t.ff≤100000)))∧w'=W):=λW=>cal.cin t.ff 0 100000 W;rw[decide_eq_true h1] at k;have l:Hid (∀W,zC 47 #[zI t.fb,zI 0,zI 10000] W λe w'=>e=.returned (.bool (decide (0≤t.fb∧t.fb≤10000)))∧w'=W):=λW=>cal.cin t.fb 0 10000 W;rw[decide_eq_false h2] at l;have x:Hid (¬ TOk t):=λy=>h2 y.2.1;have u:Hid (tar.Right t.ts):=hr;clear h hl hr h1 h2;go_enter Tryz.func45,Tryz.ntmps45;go_upto_region 1 with fail
 rw[s.o];go_wp2_with fail;refine q.o.mono ?_;rintro e g ⟨f,rfl,hf,b⟩;have n:Hid (zB w g):=i.o.trans (b.mono (Nat.le_of_lt c));have a:Hid (Blk g w.heap.size #[.slice p len cap,zI t.ff,zI t.fb,zI t.db,zI t.al] 24):=j.o.below b c;have A:g.cell? ⟨w.heap.size,1,none⟩=some (zI t.ff):=a.o.cell 1;have B:g.cell? ⟨w.heap.size,2,none⟩=some (zI t.fb):=a.o.cell 2;have C:g.cell? ⟨w.heap.size,3,none⟩=some (zI t.db):=a.o.cell 3;have D:g.cell? ⟨w.heap.size,4,none⟩=some (zI t.al):=a.o.cell 4;obtain rfl:f=0:=hf.ok.2 u.o;clear hf b c0 c;go_wp2_with fail;refine(k.o _).mono ?_;rintro e z ⟨rfl,d⟩;subst d;go_wp2_with fail;refine(l.o _).mono ?_;rintro e z ⟨rfl,d⟩;subst d;go_wp2_with fail
 all_goals first
  |(rename_i q1 q2;exact absurd q1 (by simp[undef]))
  |(go_ret;exact⟨_,rfl,.inr (.inl ⟨u.o,x.o,rfl⟩),n.o⟩)
theorem tfa3(t:Tm)(p:Option Addr)(len cap:Nat)(w:World)(h:RowD w p len t.ts)(hl:len≤maxLen)(hr:tar.Right t.ts)(h1:0≤t.ff∧t.ff≤100000)(h2:0≤t.fb∧t.fb≤10000)(h3:¬ (0≤t.db∧t.db≤10000)):Calls Tryz.prog 45 #[.agg #[.slice p len cap,zI t.ff,zI t.fb,zI t.db,zI t.al]] w λe w'=>tar.ErrPost w (TFault t) e w':=by
 obtain⟨n,u,j,i,d⟩:=sh1 w #[.slice p len cap,zI t.ff,zI t.fb,zI t.db,zI t.al] 24;have s:Hid (RowD n p len t.ts):=h.below i.o;have c0:n.cell? ⟨w.heap.size,0,none⟩=some (.slice p len cap):=j.o.cell 0;have r:Hid (zC 87 #[.slice p len cap] n λe w'=>tar.ErrPost n (tar.FaultIs t.ts) e w'):=tar.rfault p len cap t.ts _ s.o hl;have k:Hid (∀W,zC 47 #[zI t.ff,zI 0,zI 100000] W λe w'=>e=.returned (.bool (decide (0≤t.ff∧t.ff≤100000)))∧w'=W):=λW=>cal.cin t.ff 0 100000 W;rw[decide_eq_true h1] at k;have l:Hid (∀W,zC 47 #[zI t.fb,zI 0,zI 10000] W λe w'=>e=.returned (.bool (decide (0≤t.fb∧t.fb≤10000)))∧w'=W):=λW=>cal.cin t.fb 0 10000 W;rw[decide_eq_true h2] at l;have m:Hid (∀W,zC 47 #[zI t.db,zI 0,zI 10000] W λe w'=>e=.returned (.bool (decide (0≤t.db∧t.db≤10000)))∧w'=W):=λW=>cal.cin t.db 0 10000 W;rw[decide_eq_false h3] at m;have z:Hid (¬ TOk t):=λA=>h3 A.2.2.1;have x:Hid (tar.Right t.ts):=hr;clear h hl hr h1 h2 h3;go_enter Tryz.func45,Tryz.ntmps45;go_upto_region 1 with fail
 rw[u.o];go_wp2_with fail;refine r.o.mono ?_;rintro e g ⟨f,rfl,hf,c⟩;have q:Hid (zB w g):=i.o.trans (c.mono (Nat.le_of_lt d));have b:Hid (Blk g w.heap.size #[.slice p len cap,zI t.ff,zI t.fb,zI t.db,zI t.al] 24):=j.o.below c d;have B:g.cell? ⟨w.heap.size,1,none⟩=some (zI t.ff):=b.o.cell 1;have C:g.cell? ⟨w.heap.size,2,none⟩=some (zI t.fb):=b.o.cell 2;have D:g.cell? ⟨w.heap.size,3,none⟩=some (zI t.db):=b.o.cell 3;have E:g.cell? ⟨w.heap.size,4,none⟩=some (zI t.al):=b.o.cell 4;obtain rfl:f=0:=hf.ok.2 x.o;clear hf c c0 d;go_wp2_with fail;refine(k.o _).mono ?_;rintro e y ⟨rfl,a⟩;subst a;go_wp2_with fail;refine(l.o _).mono ?_;rintro e y ⟨rfl,a⟩;subst a;go_wp2_with fail;refine(m.o _).mono ?_;rintro e y ⟨rfl,a⟩;subst a;go_wp2_with fail
 all_goals first
  |(rename_i q1 q2;exact absurd q1 (by simp[undef]))
  |(go_ret;exact⟨_,rfl,.inr (.inl ⟨x.o,z.o,rfl⟩),q.o⟩)
theorem tfa4(t:Tm)(p:Option Addr)(len cap:Nat)(w:World)(h:RowD w p len t.ts)(hl:len≤maxLen)(hr:tar.Right t.ts)(h1:0≤t.ff∧t.ff≤100000)(h2:0≤t.fb∧t.fb≤10000)(h3:0≤t.db∧t.db≤10000)(h4:¬ (0≤t.al∧t.al≤2097151)):Calls Tryz.prog 45 #[.agg #[.slice p len cap,zI t.ff,zI t.fb,zI t.db,zI t.al]] w λe w'=>tar.ErrPost w (TFault t) e w':=by
 obtain⟨q,x,j,i,d⟩:=sh1 w #[.slice p len cap,zI t.ff,zI t.fb,zI t.db,zI t.al] 24;have u:Hid (RowD q p len t.ts):=h.below i.o;have c0:q.cell? ⟨w.heap.size,0,none⟩=some (.slice p len cap):=j.o.cell 0;have s:Hid (zC 87 #[.slice p len cap] q λe w'=>tar.ErrPost q (tar.FaultIs t.ts) e w'):=tar.rfault p len cap t.ts _ u.o hl;have k:Hid (∀W,zC 47 #[zI t.ff,zI 0,zI 100000] W λe w'=>e=.returned (.bool (decide (0≤t.ff∧t.ff≤100000)))∧w'=W):=λW=>cal.cin t.ff 0 100000 W;rw[decide_eq_true h1] at k;have l:Hid (∀W,zC 47 #[zI t.fb,zI 0,zI 10000] W λe w'=>e=.returned (.bool (decide (0≤t.fb∧t.fb≤10000)))∧w'=W):=λW=>cal.cin t.fb 0 10000 W;rw[decide_eq_true h2] at l;have m:Hid (∀W,zC 47 #[zI t.db,zI 0,zI 10000] W λe w'=>e=.returned (.bool (decide (0≤t.db∧t.db≤10000)))∧w'=W):=λW=>cal.cin t.db 0 10000 W;rw[decide_eq_true h3] at m;have n:Hid (∀W,zC 47 #[zI t.al,zI 0,zI 2097151] W λe w'=>e=.returned (.bool (decide (0≤t.al∧t.al≤2097151)))∧w'=W):=λW=>cal.cin t.al 0 2097151 W;rw[decide_eq_false h4] at n;have A:Hid (¬ TOk t):=λB=>h4 B.2.2.2;have z:Hid (tar.Right t.ts):=hr;clear h hl hr h1 h2 h3 h4;go_enter Tryz.func45,Tryz.ntmps45;go_upto_region 1 with fail
 rw[x.o];go_wp2_with fail;refine s.o.mono ?_;rintro e g ⟨f,rfl,hf,c⟩;have r:Hid (zB w g):=i.o.trans (c.mono (Nat.le_of_lt d));have b:Hid (Blk g w.heap.size #[.slice p len cap,zI t.ff,zI t.fb,zI t.db,zI t.al] 24):=j.o.below c d;have C:g.cell? ⟨w.heap.size,1,none⟩=some (zI t.ff):=b.o.cell 1;have D:g.cell? ⟨w.heap.size,2,none⟩=some (zI t.fb):=b.o.cell 2;have E:g.cell? ⟨w.heap.size,3,none⟩=some (zI t.db):=b.o.cell 3;have F:g.cell? ⟨w.heap.size,4,none⟩=some (zI t.al):=b.o.cell 4;obtain rfl:f=0:=hf.ok.2 z.o;clear hf c c0 d;go_wp2_with fail;refine(k.o _).mono ?_;rintro e y ⟨rfl,a⟩;subst a;go_wp2_with fail;refine(l.o _).mono ?_;rintro e y ⟨rfl,a⟩;subst a;go_wp2_with fail;refine(m.o _).mono ?_;rintro e y ⟨rfl,a⟩;subst a;go_wp2_with fail;refine(n.o _).mono ?_;rintro e y ⟨rfl,a⟩;subst a;go_wp2_with fail
 all_goals first
  |(rename_i q1 q2;exact absurd q1 (by simp[undef]))
  |(go_ret;exact⟨_,rfl,.inr (.inl ⟨z.o,A.o,rfl⟩),r.o⟩)
theorem tfa5(t:Tm)(p:Option Addr)(len cap:Nat)(w:World)(h:RowD w p len t.ts)(hl:len≤maxLen)(hr:tar.Right t.ts)(h1:0≤t.ff∧t.ff≤100000)(h2:0≤t.fb∧t.fb≤10000)(h3:0≤t.db∧t.db≤10000)(h4:0≤t.al∧t.al≤2097151):Calls Tryz.prog 45 #[.agg #[.slice p len cap,zI t.ff,zI t.fb,zI t.db,zI t.al]] w λe w'=>tar.ErrPost w (TFault t) e w':=by
 obtain⟨q,x,j,i,d⟩:=sh1 w #[.slice p len cap,zI t.ff,zI t.fb,zI t.db,zI t.al] 24;have u:Hid (RowD q p len t.ts):=h.below i.o;have c0:q.cell? ⟨w.heap.size,0,none⟩=some (.slice p len cap):=j.o.cell 0;have s:Hid (zC 87 #[.slice p len cap] q λe w'=>tar.ErrPost q (tar.FaultIs t.ts) e w'):=tar.rfault p len cap t.ts _ u.o hl;have k:Hid (∀W,zC 47 #[zI t.ff,zI 0,zI 100000] W λe w'=>e=.returned (.bool (decide (0≤t.ff∧t.ff≤100000)))∧w'=W):=λW=>cal.cin t.ff 0 100000 W;rw[decide_eq_true h1] at k;have l:Hid (∀W,zC 47 #[zI t.fb,zI 0,zI 10000] W λe w'=>e=.returned (.bool (decide (0≤t.fb∧t.fb≤10000)))∧w'=W):=λW=>cal.cin t.fb 0 10000 W;rw[decide_eq_true h2] at l;have m:Hid (∀W,zC 47 #[zI t.db,zI 0,zI 10000] W λe w'=>e=.returned (.bool (decide (0≤t.db∧t.db≤10000)))∧w'=W):=λW=>cal.cin t.db 0 10000 W;rw[decide_eq_true h3] at m;have n:Hid (∀W,zC 47 #[zI t.al,zI 0,zI 2097151] W λe w'=>e=.returned (.bool (decide (0≤t.al∧t.al≤2097151)))∧w'=W):=λW=>cal.cin t.al 0 2097151 W;rw[decide_eq_true h4] at n;have A:Hid (TOk t):=⟨h1,h2,h3,h4⟩
 have z:Hid (tar.Right t.ts):=hr;clear h hl hr h1 h2 h3 h4;go_enter Tryz.func45,Tryz.ntmps45;go_upto_region 1 with fail
 rw[x.o];go_wp2_with fail;refine s.o.mono ?_;rintro e g ⟨f,rfl,hf,c⟩;have r:Hid (zB w g):=i.o.trans (c.mono (Nat.le_of_lt d));have b:Hid (Blk g w.heap.size #[.slice p len cap,zI t.ff,zI t.fb,zI t.db,zI t.al] 24):=j.o.below c d;have B:g.cell? ⟨w.heap.size,1,none⟩=some (zI t.ff):=b.o.cell 1;have C:g.cell? ⟨w.heap.size,2,none⟩=some (zI t.fb):=b.o.cell 2;have D:g.cell? ⟨w.heap.size,3,none⟩=some (zI t.db):=b.o.cell 3;have E:g.cell? ⟨w.heap.size,4,none⟩=some (zI t.al):=b.o.cell 4;obtain rfl:f=0:=hf.ok.2 z.o;clear hf c c0 d;go_wp2_with fail;refine(k.o _).mono ?_;rintro e y ⟨rfl,a⟩;subst a;go_wp2_with fail;refine(l.o _).mono ?_;rintro e y ⟨rfl,a⟩;subst a;go_wp2_with fail;refine(m.o _).mono ?_;rintro e y ⟨rfl,a⟩;subst a;go_wp2_with fail;refine(n.o _).mono ?_;rintro e y ⟨rfl,a⟩;subst a;go_wp2_with fail
 all_goals first
  |(rename_i q1 q2;exact absurd q1 (by simp[undef]))
  |(go_ret;exact⟨_,rfl,.inr (.inr ⟨⟨z.o,A.o⟩,rfl⟩),r.o⟩)
theorem rterms(t:Tm)(p:Option Addr)(len cap:Nat)(w:World)(h:RowD w p len t.ts)(hl:len≤maxLen):Calls Tryz.prog 45 #[.agg #[.slice p len cap,zI t.ff,zI t.fb,zI t.db,zI t.al]] w λe w'=>tar.ErrPost w (TFault t) e w':=by
 by_cases a:tar.Right t.ts
 ·by_cases b:0≤t.ff∧t.ff≤100000
  ·by_cases c:0≤t.fb∧t.fb≤10000
   ·by_cases d:0≤t.db∧t.db≤10000
    ·by_cases f:0≤t.al∧t.al≤2097151
     ·exact tfa5 t p len cap w h hl a b c d f
     ·exact tfa4 t p len cap w h hl a b c d f
    ·exact tfa3 t p len cap w h hl a b c d
   ·exact tfa2 t p len cap w h hl a b c
  ·exact tfa1 t p len cap w h hl a b
 ·exact tfa0 t p len cap w h hl a
theorem rgranted(x:Ac)(p:Option Addr)(len cap:Nat)(t:Tm)(pt:Option Addr)(lt ct:Nat)(m:Int)(w:World)(h:RowD w p len x.ds)(hl:len≤maxLen)(ht:RowD w pt lt t.ts)(htl:lt≤maxLen):Calls Tryz.prog 23 #[.agg #[zI x.me,zI x.rv,zI x.nx,zI x.mo,zI x.bo,zI x.fr,.slice p len cap],.agg #[.slice pt lt ct,zI t.ff,zI t.fb,zI t.db,zI t.al],zI m] w λe w'=>BPost w (GrantIs x t m) e w':=by
 by_cases hm:AMay x
 ·have HM:=zh hm;have bs:=hm.2.2.2.1;have br:=hm.2.2.2.2.1;obtain⟨W0,N,aj,an,am,ak,M,bf⟩:=sh4 w #[zI x.me,zI x.rv,zI x.nx,zI x.mo,zI x.bo,zI x.fr,.slice p len cap] 55 #[.slice pt lt ct,zI t.ff,zI t.fb,zI t.db,zI t.al] 24 #[zI 0,zI 0,zI 0,zI 0,zI 0,zI 0,zS] 55 #[zI 0,zI 0,zI 0,zI 0,zI 0,zI 0,zI 0] 33;have a4:=zh (h.below M.o);have ai:=zh (ht.below M.o);go_enter Tryz.func23,Tryz.ntmps23;go_upto_region 1 with fail
  rw[N.o];have ay:Hid (zC 44 #[.agg #[zI x.me,zI x.rv,zI x.nx,zI x.mo,zI x.bo,zI x.fr,.slice p len cap]] W0 λe w'=>e=.returned (.bool true)∧zB W0 w'):=ramay x p len cap _ a4.o hl hm;go_wp2_with refine zw ?_;refine ay.o.mono ?_;rintro e w1 ⟨rfl,j⟩;obtain⟨aq,au,aD,ar⟩:=zn4 j aj an am ak;have aC:=zh (a4.o.below j);have ap:=zh (ai.o.below j);have ao:=shB M j;have aO:=j.size;clear j;clear hm;have ba:=zh (rterms t pt lt ct w1 ap.o htl);go_wp2_with refine zw ?_;refine ba.o.mono ?_;rintro e w2 ⟨ft,rfl,aa,a1⟩;obtain⟨ac,ad,aw,av⟩:=zn4 a1 aq au aD ar;have aE:=zh (aC.o.below a1);have aR:=zh (ap.o.below a1);have ab:=shB ao a1;have bk:=a1.size;clear a1;by_cases h0:ft=0
  ·subst h0;have HT:Hid (TRight t):=aa.ok.1 rfl;clear aa;have b9:=zh (rrolled x p len cap m w2 aE.o hl);go_wp2_with refine zw ?_;refine b9.o.mono ?_;rintro e w3 ⟨b,J,I,G,fr,rfl,af,aM,a2⟩;obtain⟨a5,a7,U,a6⟩:=zn4 a2 ac ad aw av;have aF:=zh (aE.o.below a2);have aG:=zh (aR.o.below a2);have T:=shB ab a2;have bl:=a2.size;clear a2;unfold Ac.v Ac.cs;have ax:=zh aM;have c:=zh (came_lt ax.o.came);clear aM;by_cases h4:fr=0
   ·subst h4
    have a3:RMay x m∧b=rolled x m:=by
     rcases af with⟨q,_⟩|⟨_,_,q,_⟩|⟨_,q,r,_⟩
     ·exact absurd HM.o q
     ·exact absurd rfl q.ne
     ·exact⟨q,r⟩
    have ae:Hid (Ready x t m):=⟨HM.o,HT.o,a3.1⟩
    have b7:=zh a3.2;have aA:=rolled_same x m;rw[← a3.2] at aA;have bb:=(rolled_may HM.o a3.1).2.2.2.2.2.1;rw[← a3.2] at bb;have az:=zh aA;clear a3 af aA;obtain⟨W4,N,a8,n,aN⟩:=sh1 w3 #[zI b.me,zI b.rv,zI b.nx,zI b.mo,zI b.bo,zI b.fr,.slice J I G] 55;obtain⟨l,u,aH,W⟩:=zn4 n.o a5 a7 U a6;have aV:=zh (aF.o.below n.o);have aW:=zh (aG.o.below n.o);have k:=zh (ax.o.below n.o);have V:=shB T n.o;go_upto_region 7 with fail
    rw[N.o];by_cases h5:t.al=0
    ·have d5:(t.al==0)=true:=by simpa using h5
     have HV:Hid (GrantIs x t m ac0 bi0 22):=.inr (.inl ⟨ae.o,h5,rfl,rfl,rfl⟩);clear h5;have ah:=zy4 u;go_wp2_with (first|refine zs ?_|refine zw ?_)
     intro O a;obtain⟨z,C,a9,L⟩:=zk4 a l u W a8;have B:=zyb a;have i:Hid (deb.Fresh O w2.heap.size J I G b.ds):=fresh_updN k.o a (λd y f=>by have f1:=k.o.new d y f;have f2:=c.o d y f;omega);have A:=zk a V;have Q:=a.size;clear a;go_wp2_with (first|refine zs ?_|refine zw ?_)
     intro s a;obtain⟨Y,a0,F,Z⟩:=zk4 a z C B L;have E:=zyb a;have X:Hid (deb.Fresh s w2.heap.size J I G b.ds):=fresh_updN i.o a (λd y f=>by have f1:=i.o.new d y f;have f2:=c.o d y f;omega);have D:=zk a A;have H:=a.size;clear a;go_wp2_with fail;exact zr (.tuple #[.agg #[zI 0,zI 0,zI 0,zI 0,zI 0,zI 0,zS],.agg #[zI 0,zI 0,zI 0,zI 0,zI 0,zI 0,zI 0],zI 22]) (by simp[results,Tryz.results23,scl7 F,scl7 E,go_sem]) ⟨ac0,bi0,none,0,0,_,rfl,HV.o,deb.fresh_nil _ _,D.o⟩
    ·have d5:(t.al==0)=false:=by simpa using h5
     by_cases h6:x.fr=m
     ·have d6:(x.fr==m)=true:=by simpa using h6
      have HV:Hid (GrantIs x t m ac0 bi0 21):=.inr (.inr (.inl ⟨ae.o,h5,h6,rfl,rfl,rfl⟩));clear h5 h6;have ah:=zy4 u;have aB:=zy5 l;go_wp2_with (first|refine zs ?_|refine zw ?_)
      intro O a;obtain⟨z,C,a9,L⟩:=zk4 a l u W a8;have B:=zyb a;have i:Hid (deb.Fresh O w2.heap.size J I G b.ds):=fresh_updN k.o a (λd y f=>by have f1:=k.o.new d y f;have f2:=c.o d y f;omega);have A:=zk a V;have Q:=a.size;clear a;go_wp2_with (first|refine zs ?_|refine zw ?_)
      intro s a;obtain⟨Y,a0,F,Z⟩:=zk4 a z C B L;have E:=zyb a;have X:Hid (deb.Fresh s w2.heap.size J I G b.ds):=fresh_updN i.o a (λd y f=>by have f1:=i.o.new d y f;have f2:=c.o d y f;omega);have D:=zk a A;have H:=a.size;clear a;go_wp2_with fail;exact zr (.tuple #[.agg #[zI 0,zI 0,zI 0,zI 0,zI 0,zI 0,zS],.agg #[zI 0,zI 0,zI 0,zI 0,zI 0,zI 0,zI 0],zI 21]) (by simp[results,Tryz.results23,scl7 F,scl7 E,go_sem]) ⟨ac0,bi0,none,0,0,_,rfl,HV.o,deb.fresh_nil _ _,D.o⟩
     ·have d6:(x.fr==m)=false:=by simpa using h6
      by_cases h7:x.nx≤1048575
      ·have d7:(x.nx==1048576)=false:=by simp;omega
       have ah:=zy4 u;have aB:=zy5 l;have ag:=zy2 l;go_wp2_with refine zl ?_;clear ah aB ag;intro W5 a;obtain⟨z,C,B,a9⟩:=zk4 a l u aH W;have L:=zyb a;have i:Hid (deb.Fresh W5 w2.heap.size J I G b.ds):=fresh_updN k.o a (λd y f=>by have f1:=k.o.new d y f;have f2:=c.o d y f;omega);have A:=zk a V;have bi:=a.size;clear a;have ag:=zy2 z;go_wp2_with (first|refine zl ?_|refine zw ?_)
       intro W6 a;obtain⟨Y,a0,F,E⟩:=zk4 a z C B a9;have Z:=zyb a;have X:Hid (deb.Fresh W6 w2.heap.size J I G b.ds):=fresh_updN i.o a (λd y f=>by have f1:=i.o.new d y f;have f2:=c.o d y f;omega);have D:=zk a A;have bj:=a.size;clear a;clear ag;go_upto_region 17 with fail
       refine wp_region_held_drew (S:=λv=>Blk v (w3.heap.size) #[zI b.me,zI b.rv,zI (x.nx+1),zI b.mo,zI b.bo,zI m,.slice J I G] 55∧Blk v (w.heap.size) #[zI x.me,zI x.rv,zI x.nx,zI x.mo,zI x.bo,zI x.fr,.slice p len cap] 55∧Blk v (w.heap.size+1) #[.slice pt lt ct,zI t.ff,zI t.fb,zI t.db,zI t.al] 24) (by kernel_rfl) ⟨Blk.drew Z.o 1,Blk.drew Y.o 1,Blk.drew a0.o 1⟩ (λP=>?_);refine zu' 0 (.agg #[zI b.me,zI b.rv,zI (x.nx+1),zI b.mo,zI b.bo,zI m,.slice J I G]) rfl rfl (Or.inl ⟨by rfl,λv R=>by have g0:=R.1.cell 0;have g1:=R.1.cell 1;have g2:=R.1.cell 2;have g3:=R.1.cell 3;have g4:=R.1.cell 4;have g5:=R.1.cell 5;have g6:=R.1.cell 6;clear R;go_simp⟩) ?_;refine zt' 1 (.pointer (some ⟨w.heap.size,2,none⟩)) ?_;refine zu' 2 (zI x.nx) rfl rfl (Or.inl ⟨by rfl,λv R=>by have g:=R.2.1.cell 2;clear R;go_simp⟩) ?_;refine zt' 3 (.pointer (some ⟨w.heap.size+1,4,none⟩)) ?_;refine zu' 4 (zI t.al) rfl rfl (Or.inl ⟨by rfl,λv R=>by have g:=R.2.2.cell 4;clear R;go_simp⟩) ?_;refine zt' 5 (.agg #[zI x.nx,zI 0,zI 0,zI 0,zI 0,zI 0,zI t.al]) ?_;refine zo 6 λK hK=>?_;rw[if_pos (by rfl)];refine wp_letOp 55 _ _ rfl (w.heap.size+1+1) rfl #[zI b.me,zI b.rv,zI (x.nx+1),zI b.mo,zI b.bo,zI m,.slice J I G] rfl (by kernel_rfl) (by simp[Value.oneCell']) #[zI 0,zI 0,zI 0,zI 0,zI 0,zI 0,zS] 55 (Blk.drew F.o 1) rfl rfl ?_;intro V1 a;have aJ:=zh (a.keep (Blk.drew Y.o 1) (by omega));have aL:=zh (a.keep (Blk.drew a0.o 1) (by omega));have aZ:=zyb a;have aY:=zh (a.keep (Blk.drew E.o 1) (by omega));have aK:=zh (a.keep (Blk.drew Z.o 1) (by omega));have aI:Hid (deb.Fresh V1 w2.heap.size J I G b.ds):=fresh_updN (fresh_drew X.o) a (λd y f=>by have f1:=X.o.new d y f;have f2:=c.o d y f;omega);have aX:Hid (zB w V1):=a.bel _ _ (by omega) D.o.drew;clear a;refine hK.o _ _ ⟨aK.o,aJ.o,aL.o⟩ (λP=>?_)
       clear hK K;refine zo 7 λK hK=>?_;rw[if_pos (by rfl)];refine wp_letOp 33 _ _ rfl (w.heap.size+1+1+1) rfl #[zI x.nx,zI 0,zI 0,zI 0,zI 0,zI 0,zI t.al] rfl (by kernel_rfl) (by simp[Value.oneCell']) #[zI 0,zI 0,zI 0,zI 0,zI 0,zI 0,zI 0] 33 aY.o rfl rfl ?_;intro V2 a;obtain⟨b2,b6,b5,b4⟩:=zk4 a aJ aL aZ aK;have b3:=zyb a;have b1:Hid (deb.Fresh V2 w2.heap.size J I G b.ds):=fresh_updN aI.o a (λd y f=>by have f1:=aI.o.new d y f;have f2:=c.o d y f;omega);have b0:=zk a aX;clear a;refine hK.o _ _ ⟨b4.o,b2.o,b6.o⟩ (λP=>?_);clear hK K;refine zt' 8 (zI 0) ?_;refine wpAnyH_done (by kernel_rfl) ?_ _;clear P
       have b8:Hid (⟨b.me,b.rv,x.nx+1,b.mo,b.bo,m,b.ds⟩=granted x m):=by
        show _=_;unfold granted;rw[← b7.o,az.o.1,az.o.2.1,az.o.2.2.2.1]
       go_wp2_with fail;exact zr (.tuple #[.agg #[zI b.me,zI b.rv,zI (x.nx+1),zI b.mo,zI b.bo,zI m,.slice J I G],.agg #[zI x.nx,zI 0,zI 0,zI 0,zI 0,zI 0,zI t.al],zI 0]) (by simp[results,Tryz.results23,scl7 b5,scl7 b3,go_sem]) ⟨⟨b.me,b.rv,x.nx+1,b.mo,b.bo,m,b.ds⟩,⟨x.nx,0,0,0,0,0,t.al⟩,J,I,G,_,rfl,.inr (.inr (.inr (.inr ⟨ae.o,h5,h6,h7,rfl,b8.o,rfl⟩))),b1.o.low (by omega),b0.o⟩
      ·have d7:(x.nx==1048576)=true:=by simp;omega
       have HV:Hid (GrantIs x t m ac0 bi0 20):=.inr (.inr (.inr (.inl ⟨ae.o,h5,h6,h7,rfl,rfl,rfl⟩)));clear h5 h6 h7;have ah:=zy4 u;have aB:=zy5 l;have ag:=zy2 l;go_wp2_with (first|refine zs ?_|refine zw ?_)
       intro O a;obtain⟨z,C,a9,L⟩:=zk4 a l u W a8;have B:=zyb a;have i:Hid (deb.Fresh O w2.heap.size J I G b.ds):=fresh_updN k.o a (λd y f=>by have f1:=k.o.new d y f;have f2:=c.o d y f;omega);have A:=zk a V;have Q:=a.size;clear a;go_wp2_with (first|refine zs ?_|refine zw ?_)
       intro s a;obtain⟨Y,a0,F,Z⟩:=zk4 a z C B L;have E:=zyb a;have X:Hid (deb.Fresh s w2.heap.size J I G b.ds):=fresh_updN i.o a (λd y f=>by have f1:=i.o.new d y f;have f2:=c.o d y f;omega);have D:=zk a A;have H:=a.size;clear a;go_wp2_with fail;exact zr (.tuple #[.agg #[zI 0,zI 0,zI 0,zI 0,zI 0,zI 0,zS],.agg #[zI 0,zI 0,zI 0,zI 0,zI 0,zI 0,zI 0],zI 20]) (by simp[results,Tryz.results23,scl7 F,scl7 E,go_sem]) ⟨ac0,bi0,none,0,0,_,rfl,HV.o,deb.fresh_nil _ _,D.o⟩
   ·have be:(fr != 0)=true:=by simpa using h4
    have HV:Hid (Refused x t m fr):=by
     rcases af with⟨q,_⟩|⟨_,q,r,_⟩|⟨_,_,_,r⟩
     ·exact absurd HM.o q
     ·exact .inr (.inr ⟨HM.o,HT.o,q,r⟩)
     ·exact absurd r h4
    clear af h4;obtain⟨W4,N,a8,n,aN⟩:=sh1 w3 #[zI b.me,zI b.rv,zI b.nx,zI b.mo,zI b.bo,zI b.fr,.slice J I G] 55;obtain⟨l,u,aH,W⟩:=zn4 n.o a5 a7 U a6;have aV:=zh (aF.o.below n.o);have aW:=zh (aG.o.below n.o);have k:=zh (ax.o.below n.o);have V:=shB T n.o;go_upto_region 7 with fail
    rw[N.o];go_wp2_with (first|refine zs ?_|refine zw ?_)
    intro O a;obtain⟨z,C,a9,L⟩:=zk4 a l u W a8;have B:=zyb a;have i:Hid (deb.Fresh O w2.heap.size J I G b.ds):=fresh_updN k.o a (λd y f=>by have f1:=k.o.new d y f;have f2:=c.o d y f;omega);have A:=zk a V;have Q:=a.size;clear a;go_wp2_with (first|refine zs ?_|refine zw ?_)
    intro s a;obtain⟨Y,a0,F,Z⟩:=zk4 a z C B L;have E:=zyb a;have X:Hid (deb.Fresh s w2.heap.size J I G b.ds):=fresh_updN i.o a (λd y f=>by have f1:=i.o.new d y f;have f2:=c.o d y f;omega);have D:=zk a A;have H:=a.size;clear a;go_wp2_with fail;exact zr (.tuple #[.agg #[zI 0,zI 0,zI 0,zI 0,zI 0,zI 0,zS],.agg #[zI 0,zI 0,zI 0,zI 0,zI 0,zI 0,zI 0],zI fr]) (by simp[results,Tryz.results23,scl7 F,scl7 E,go_sem]) ⟨ac0,bi0,none,0,0,_,rfl,.inl ⟨HV.o,rfl,rfl⟩,deb.fresh_nil _ _,D.o⟩
  ·have be:(ft != 0)=true:=by simpa using h0
   have HV:Hid (Refused x t m ft):=.inr (.inl ⟨HM.o,λh=>h0 (aa.ok.2 h),aa⟩);clear aa h0;go_wp2_with (first|refine zs ?_|refine zw ?_)
   intro bu a;obtain⟨a5,a7,a6⟩:=zk3 a ac ad av;have T:=zk a ab;have U:=zyb a;have bh:=a.size;clear a;go_wp2_with (first|refine zs ?_|refine zw ?_)
   intro bn a;obtain⟨bp,bq,aU⟩:=zk3 a a5 a7 U;have aS:=zk a T;have aT:=zyb a;have aQ:=a.size;clear a;go_wp2_with fail;exact zr (.tuple #[.agg #[zI 0,zI 0,zI 0,zI 0,zI 0,zI 0,zS],.agg #[zI 0,zI 0,zI 0,zI 0,zI 0,zI 0,zI 0],zI ft]) (by simp[results,Tryz.results23,scl7 aU,scl7 aT,go_sem]) ⟨ac0,bi0,none,0,0,_,rfl,.inl ⟨HV.o,rfl,rfl⟩,deb.fresh_nil _ _,aS.o⟩
 ·have HM:=zh hm;obtain⟨W0,N,aj,an,am,ak,M,bf⟩:=sh4 w #[zI x.me,zI x.rv,zI x.nx,zI x.mo,zI x.bo,zI x.fr,.slice p len cap] 55 #[.slice pt lt ct,zI t.ff,zI t.fb,zI t.db,zI t.al] 24 #[zI 0,zI 0,zI 0,zI 0,zI 0,zI 0,zS] 55 #[zI 0,zI 0,zI 0,zI 0,zI 0,zI 0,zI 0] 33;have a4:=zh (h.below M.o);have ai:=zh (ht.below M.o);go_enter Tryz.func23,Tryz.ntmps23;go_upto_region 1 with fail
  rw[N.o];have ay:Hid (zC 44 #[.agg #[zI x.me,zI x.rv,zI x.nx,zI x.mo,zI x.bo,zI x.fr,.slice p len cap]] W0 λe w'=>e=.returned (.bool false)∧zB W0 w'):=ranot x p len cap _ a4.o hl hm;go_wp2_with refine zw ?_;refine ay.o.mono ?_;rintro e w1 ⟨rfl,j⟩;obtain⟨aq,au,aD,ar⟩:=zn4 j aj an am ak;have aC:=zh (a4.o.below j);have ap:=zh (ai.o.below j);have ao:=shB M j;have aO:=j.size;clear j;go_wp2_with (first|refine zs ?_|refine zw ?_)
  intro bt a;obtain⟨ac,ad,av⟩:=zk3 a aq au ar;have ab:=zk a ao;have aw:=zyb a;have bg:=a.size;clear a;go_wp2_with (first|refine zs ?_|refine zw ?_)
  intro bm a;obtain⟨a5,a7,U⟩:=zk3 a ac ad aw;have T:=zk a ab;have a6:=zyb a;have aP:=a.size;clear a;go_wp2_with fail;exact zr (.tuple #[.agg #[zI 0,zI 0,zI 0,zI 0,zI 0,zI 0,zS],.agg #[zI 0,zI 0,zI 0,zI 0,zI 0,zI 0,zI 0],zI 5]) (by simp[results,Tryz.results23,scl7 U,scl7 a6,go_sem]) ⟨ac0,bi0,none,0,0,_,rfl,.inl ⟨.inl ⟨HM.o,rfl⟩,rfl,rfl⟩,deb.fresh_nil _ _,T.o⟩
end acc
namespace ora
open Go.RowKit
def Given(w:World)(l:List Pr)(e:Ending)(w':World):Prop:=
 zB w w'∧((May l∧∃B,e=.returned (.tuple #[.map (some B),.bool true])∧Mp w' B l)∨(¬ May l∧e=.returned (.tuple #[.map none,.bool false])))
def Seen(l:List Pr)(k:Nat):Prop:=∀i,i<k→(l.getD i pr0).may∧At l (l.getD i pr0).m (l.getD i pr0).r (l.getD i pr0).b i
structure Bg (w wr:World) (B:Nat) (a:Option Addr) (n cap:Nat) (l:List Pr) (k:Nat):Prop where
 bo:Bo w wr a n cap l
 mp:Mp wr B (l.take k)
 hB:w.heap.size≤B
variable{l:List Pr}{a:Option Addr}{n cap:Nat}{k:Nat}{B:Nat}
theorem Bg.next{w wr w':World}(h:Bg w wr B a n cap l k)(hb:zB wr w'):Bg w w' B a n cap l k:=⟨h.bo.next hb,h.mp.below hb,h.hB⟩
theorem Bg.alloc{w wr:World}(h:Bg w wr B a n cap l k)(o:Obj):Bg w (wr.alloc o) B a n cap l k:=h.next (zb.alloc zc _)
theorem Bg.drew{w wr:World}(h:Bg w wr B a n cap l k)(q:Nat):Bg w (wr.drewN q) B a n cap l k:=h.next (bel_drew zb q)
theorem rowP_oth{w W:World}{n:Nat}{l':List Pr}(h:RowP w a n l)(hM:Mp w B l')(ho:∀G,G≠B→W.heap[G]?=w.heap[G]?):RowP W a n l:=by
 refine⟨h.1,?_⟩;rcases h.2 with f|⟨b,c,rfl,p⟩
 ·exact .inl f
 ·refine .inr ⟨b,c,rfl,λi q=>?_⟩;obtain⟨d,g,j,k⟩:=p i q
  have m:b≠B:=by
   rintro rfl;unfold Mp at hM;simp[World.cell?,hM] at d
  have e:∀o,W.cell? ⟨b,o,none⟩=w.cell? ⟨b,o,none⟩:=λo=>by simp only[World.cell?,ho b m]
  exact⟨(e _).trans d,(e _).trans g,(e _).trans j,(e _).trans k⟩
theorem blk_oth{w W:World}{G B:Nat}{cs:Array Value}{t:TypeId}{l':List Pr}(h:Blk w G cs t)(hM:Mp w B l')(ho:∀G,G≠B→W.heap[G]?=w.heap[G]?):Blk W G cs t:=by
 have a:G≠B:=by
  rintro rfl;unfold Mp at hM;unfold Blk at h;rw[h] at hM;cases hM
 unfold Blk at *;rw[ho G a];exact h
theorem Bg.put{w wr W:World}(h:Bg w wr B a n cap l k)(hk:k<l.length)(hM:Mp W B (l.take k++[⟨(l.getD k pr0).m,(l.getD k pr0).r,(l.getD k pr0).b,(l.getD k pr0).t⟩]))
  (ho:∀G,G≠B→W.heap[G]?=wr.heap[G]?) (hb:∀B0 w0,B0≤B→Below B0 w0 wr→Below B0 w0 W):Bg w W B a n cap l (k+1):=
 ⟨⟨blk_oth h.bo.box h.mp ho,rowP_oth h.bo.row h.mp ho,hb _ _ h.hB h.bo.bel⟩,by rw[take_nextP l k hk] at hM;exact hM,h.hB⟩
theorem seen_no(hk:k<l.length)(hm:May l):look (l.take k) (l.getD k pr0).m (l.getD k pr0).r (l.getD k pr0).b=none:=(look_take (by omega)).2 (hm.each k hk).2.first
theorem seen_yes(hk:k<l.length)(hs:Seen l k)(hl:look (l.take k) (l.getD k pr0).m (l.getD k pr0).r (l.getD k pr0).b=none)(hp:(Pr.mk (l.getD k pr0).m (l.getD k pr0).r (l.getD k pr0).b (l.getD k pr0).t).may):Seen l (k+1):=λi a=>by
 by_cases e:i=k
 ·subst e;exact⟨hp,hk,⟨rfl,rfl,rfl⟩,(look_take (by omega)).1 hl⟩
 ·exact hs i (by omega)
theorem given_any(a:Option Addr)(n cap:Nat)(l:List Pr)(w:World)(hr:RowP w a n l):
  Calls Tryz.prog 114 #[.agg #[.slice a n cap]] w λe w'=>Given w l e w':=by
 have I:Hid (Bo w (w.alloc (.cells #[.slice a n cap] 28)) a n cap l):=Bo.new hr;have Y:=zh hr.1;clear hr;have c0:=I.o.box.cell 0;by_cases hn:n≤500
 ·have H:decide ((500:Int)<(n:Int))=false:=by simp;omega
  obtain⟨B,hBe⟩:∃B,B=w.heap.size+1:=⟨_,rfl⟩
  have ae:∀z:Int,(Instr.makeMap 178 (some (zI z))).run Tryz.prog (w.alloc (.cells #[.slice a n cap] 28))=.ok (.map (some B)) ((w.alloc (.cells #[.slice a n cap] 28)).alloc (.map #[] 0)):=λz=>by rw[run_mkMap,hBe];simp
  have T:Hid (Bg w ((w.alloc (.cells #[.slice a n cap] 28)).alloc (.map #[] 0)) B a n cap l 0):=⟨I.o.alloc _,by
   have:=Mp.new (w.alloc (.cells #[.slice a n cap] 28));rw[show (w.alloc (.cells #[.slice a n cap] 28)).heap.size=B by rw[hBe];simp] at this
   rw [List.take_zero];exact this,by omega⟩
  have d0:=T.o.bo.box.cell 0;clear hBe;have ac:Hid (∀W m r b t,zC 115 #[.agg #[zI m,zI r,zI b,zI t]] W λe w'=>Told W (Pr.mk m r b t).may e w'):=λW m r b t=>within_any m r b t W;have a1:Hid (∀W m r b t,zC 116 #[.agg #[zI m,zI r,zI b,zI t]] W λe w'=>e=.returned (.agg #[zI m,zI r,zI b])∧zB W w'):=λW m r b t=>of_any m r b t W;go_enter Tryz.func114,Tryz.ntmps114;go_wp2_with fail;clear c0 d0 ae H;generalize (w.alloc (.cells #[.slice a n cap] 28)).alloc (.map #[] 0)=W0 at *;go_loopw [20] (λj wr=>∃k:Nat,k≤n∧j=zI (k:Int)∧Hid (Seen l k)∧Bg w wr B a n cap l k) (λj _=>n-(intOf j).toNat)
  case atStart=>exact⟨0,Nat.zero_le _,rfl,λi hi=>absurd hi (Nat.not_lt_zero _),T.o⟩
  case round=>
   obtain⟨k,hk,rfl,HA,a4⟩:=hrel;have U:=zh a4;clear a4;by_cases P:k<n
   ·obtain⟨L,f,rfl,_,hc⟩:=U.o.bo.row.at (by omega);obtain⟨f0,f1,f2,f3⟩:=hc k P;have y:k<l.length:=by rw[Y.o];exact P
    have aa:Hid (look (l.take k) (l.getD k pr0).m (l.getD k pr0).r (l.getD k pr0).b≠none→¬ May l):=λh hm=>h (seen_no y hm);have a9:Hid (May l→(Pr.mk (l.getD k pr0).m (l.getD k pr0).r (l.getD k pr0).b (l.getD k pr0).t).may):=λhm=>(hm.each k y).1;have ab:Hid (look (l.take k) (l.getD k pr0).m (l.getD k pr0).r (l.getD k pr0).b=none→(Pr.mk (l.getD k pr0).m (l.getD k pr0).r (l.getD k pr0).b (l.getD k pr0).t).may→Seen l (k+1)):=λh1 h2=>seen_yes y HA.o h1 h2;have a2:Hid (∀v W,Bg w v B (some ⟨L,f,none⟩) n cap l k→Mp W B (l.take k++[⟨(l.getD k pr0).m,(l.getD k pr0).r,(l.getD k pr0).b,(l.getD k pr0).t⟩])→(∀G,G≠B→W.heap[G]?=v.heap[G]?)→(∀B0 w0,B0≤B→Below B0 w0 v→Below B0 w0 W)→Bg w W B (some ⟨L,f,none⟩) n cap l (k+1)):=λv W h1 h2 h3 h4=>h1.put y h2 h3 h4;clear hc y;generalize (l.getD k pr0).m=p at *;generalize (l.getD k pr0).r=c at *;generalize (l.getD k pr0).b=g at *;generalize (l.getD k pr0).t=E at *;have S:=Blk.new wr #[zI p,zI c,zI g,zI E] 87;have n0:=S.cell 0;have n1:=S.cell 1;have n2:=S.cell 2;have n3:=S.cell 3;have a0:=zh S;have V:Hid (Bg w (wr.alloc (.cells #[zI p,zI c,zI g,zI E] 87)) B (some ⟨L,f,none⟩) n cap l k):=U.o.alloc _;clear S U;go_wp2_with fail;refine(a1.o _ _ _ _ _).mono ?_;rintro e w2 ⟨rfl,M⟩;have C:Hid (Bg w w2 B (some ⟨L,f,none⟩) n cap l k):=V.o.next M;have F:=shN a0 M;have m0:=F.o.cell 0;have m1:=F.o.cell 1;have m2:=F.o.cell 2;have m3:=F.o.cell 3;have A:=look_run C.o.mp p c g;clear a0 M n0 n1 n2 n3 V f0 f1 f2 f3;generalize wr.heap.size=d at *;cases hlo:look (l.take k) p c g with
    |some x=>
     rw[hlo] at A;simp only[Option.getD_some,Option.isSome_some] at A;have J:Hid (¬ May l):=aa.o (by rw[hlo];exact λh=>by cases h);clear hlo;go_wp2_with fail;go_ret2;exact⟨C.o.bo.bel,.inr ⟨J.o,rfl⟩⟩
    |none=>
     rw[hlo] at A;simp only[Option.getD_none,Option.isSome_none] at A;have Z:Hid (look (l.take k) p c g=none):=hlo;clear hlo;go_wp2_with fail;refine(ac.o _ _ _ _ _).mono ?_;rintro e R ⟨rr,rfl,D,N⟩;have X:Hid (Bg w R B (some ⟨L,f,none⟩) n cap l k):=C.o.next N;have q:=shN F N;clear A m0 m1 m2 m3 F C N;cases rr with
     |false=>
      have J:Hid (¬ May l):=λhm=>by have:=D.2 (a9.o hm);cases this
      clear D;go_wp2_with fail;go_ret2;exact⟨X.o.bo.bel,.inr ⟨J.o,rfl⟩⟩
     |true=>
      have ad:Hid ((Pr.mk p c g E).may):=D.1 rfl;clear D;have K3:Hid (R.drew.cell? ⟨d,0,none⟩=some (zI p)∧R.drew.cell? ⟨d,0+1,none⟩=some (zI c)∧R.drew.cell? ⟨d,0+2,none⟩=some (zI g)∧R.drew.cell? ⟨d,0+3,none⟩=some (zI E)):=⟨q.o.cell 0,q.o.cell 1,q.o.cell 2,q.o.cell 3⟩
      have a6:Hid (Bg w R.drew B (some ⟨L,f,none⟩) n cap l k):=X.o.drew 1;have a8:Hid (Blk R.drew d #[zI p,zI c,zI g,zI E] 87):=q.o;go_wp2_with fail
      go_region_held_law (λv=>v.cell? ⟨d,0,none⟩=some (zI p)∧v.cell? ⟨d,0+1,none⟩=some (zI c)∧v.cell? ⟨d,0+2,none⟩=some (zI g)∧v.cell? ⟨d,0+3,none⟩=some (zI E))
       (first|with_reducible exact K3.o|with_reducible exact K4.o|with_reducible exact K5.o)
       (first
        | (go_at_call 116;refine (a1.o _ _ _ _ _).mono ?_;rintro e w4 ⟨rfl,O⟩
           have K:=zh (a6.o.next O);have s:=shN a8 O;have K4:Hid (w4.cell? ⟨d,0,none⟩=some (zI p)∧w4.cell? ⟨d,0+1,none⟩=some (zI c)∧w4.cell? ⟨d,0+2,none⟩=some (zI g)∧w4.cell? ⟨d,0+3,none⟩=some (zI E)):=⟨s.o.cell 0,s.o.cell 1,s.o.cell 2,s.o.cell 3⟩
           obtain⟨W5,ah,a5,Q,a3,af⟩:=upd_run K.o.mp p c g E Z.o;have a7:Hid (Bg w W5 B (some ⟨L,f,none⟩) n cap l (k+1)):=a2.o _ _ K.o a5 Q a3;have u:=blk_oth s.o K.o.mp Q;have K5:Hid (W5.cell? ⟨d,0,none⟩=some (zI p)∧W5.cell? ⟨d,0+1,none⟩=some (zI c)∧W5.cell? ⟨d,0+2,none⟩=some (zI g)∧W5.cell? ⟨d,0+3,none⟩=some (zI E)):=⟨u.cell 0,u.cell 1,u.cell 2,u.cell 3⟩
           clear a5 Q a3 af u O))
      all_goals go_wp2_with fail
      all_goals go_roundw
      case rel=>exact⟨k+1,by omega,by go_num,ab.o Z.o ad.o,a7.o⟩
      case measure=>simp[intOf];omega
   ·obtain rfl:k=n:=by omega
    have ag:decide ((k:Int)<(k:Int))=false:=by simp
    have J:Hid (May l):=⟨by rw[Y.o];exact hn,λi hi=>HA.o i (by rw[← Y.o];exact hi)⟩
    have F:Hid (Mp wr B l):=by have:=U.o.mp;rw[List.take_of_length_le (by rw[Y.o];exact zc)] at this;exact this
    clear P;go_wp2_with fail;go_ret2;exact⟨U.o.bo.bel,.inl ⟨J.o,B,rfl,F.o⟩⟩
 ·have H:decide ((500:Int)<(n:Int))=true:=by simp;omega
  have J:Hid (¬ May l):=λh=>by have:=h.few;rw[Y.o] at this;omega
  clear hn;go_enter Tryz.func114,Tryz.ntmps114;go_wp2_with fail;go_ret2;exact⟨I.o.bel,.inr ⟨J.o,rfl⟩⟩
end ora
end Go.Proofs.YtoepgdhiepedeaaGreatDoor
