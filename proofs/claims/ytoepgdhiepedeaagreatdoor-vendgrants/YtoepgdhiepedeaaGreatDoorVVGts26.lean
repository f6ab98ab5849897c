import Derived.Test.YtoepgdhiepedeaaGreatDoorVVGts13
set_option linter.unusedVariables false
set_option linter.unusedSimpArgs false
set_option maxHeartbeats 4000000
set_option maxRecDepth 100000
namespace Go.Proofs.YtoepgdhiepedeaaGreatDoor
namespace acc
open tar (Du du0 Came RowD Ld PairT)
open Go.RowKit
theorem tfa0(t:Tm)(p:Option Addr)(len cap:Nat)(w:World)(h:RowD w p len t.ts)(hl:len≤maxLen)(hr:¬ tar.Right t.ts):Calls Tryz.prog 45 #[.agg #[.slice p len cap,zI t.ff,zI t.fb,zI t.db,zI t.al]] w λe w'=>tar.ErrPost w (TFault t) e w':=by
 obtain⟨j,n,i,g,c⟩:=sh1 w #[.slice p len cap,zI t.ff,zI t.fb,zI t.db,zI t.al] 24;have m:Hid (RowD j p len t.ts):=h.below g.o;have c0:j.cell? ⟨w.heap.size,0,none⟩=some (.slice p len cap):=i.o.cell 0;have l:Hid (zC 87 #[.slice p len cap] j λe w'=>tar.ErrPost j (tar.FaultIs t.ts) e w'):=tar.rfault p len cap t.ts _ m.o hl;have q:Hid (¬ tar.Right t.ts):=hr;clear h hl hr;go_enter Tryz.func45,Tryz.ntmps45;go_upto_region 1 with fail
 rw[n.o];go_wp2_with fail;refine l.o.mono ?_;rintro e d ⟨f,rfl,hf,b⟩;have k:Hid (zB w d):=g.o.trans (b.mono (Nat.le_of_lt c));have a:Hid (Blk d w.heap.size #[.slice p len cap,zI t.ff,zI t.fb,zI t.db,zI t.al] 24):=i.o.below b c;have u:d.cell? ⟨w.heap.size,1,none⟩=some (zI t.ff):=a.o.cell 1;have x:d.cell? ⟨w.heap.size,2,none⟩=some (zI t.fb):=a.o.cell 2;have y:d.cell? ⟨w.heap.size,3,none⟩=some (zI t.db):=a.o.cell 3;have z:d.cell? ⟨w.heap.size,4,none⟩=some (zI t.al):=a.o.cell 4;have r:Hid (tar.FaultIs t.ts f):=hf;have s:(f != 0)=true:=by simpa using λe=>q.o (hf.ok.1 e)
 clear hf b c0 c;go_wp2_with fail
 all_goals first
  |(rename_i q1 q2;exact absurd q1 (by simp[undef]))
  |(go_ret;exact⟨_,rfl,.inl ⟨q.o,r.o⟩,k.o⟩)
theorem tfa1(t:Tm)(p:Option Addr)(len cap:Nat)(w:World)(h:RowD w p len t.ts)(hl:len≤maxLen)(hr:tar.Right t.ts)(h1:¬ (0≤t.ff∧t.ff≤100000)):Calls Tryz.prog 45 #[.agg #[.slice p len cap,zI t.ff,zI t.fb,zI t.db,zI t.al]] w λe w'=>tar.ErrPost w (TFault t) e w':=by
 obtain⟨k,q,i,g,c⟩:=sh1 w #[.slice p len cap,zI t.ff,zI t.fb,zI t.db,zI t.al] 24;have n:Hid (RowD k p len t.ts):=h.below g.o;have c0:k.cell? ⟨w.heap.size,0,none⟩=some (.slice p len cap):=i.o.cell 0;have m:Hid (zC 87 #[.slice p len cap] k λe w'=>tar.ErrPost k (tar.FaultIs t.ts) e w'):=tar.rfault p len cap t.ts _ n.o hl;have j:Hid (∀W,zC 47 #[zI t.ff,zI 0,zI 100000] W λe w'=>e=.returned (.bool (decide (0≤t.ff∧t.ff≤100000)))∧w'=W):=λW=>cal.cin t.ff 0 100000 W;rw[decide_eq_false h1] at j;have u:Hid (¬ TOk t):=λx=>h1 x.1;have s:Hid (tar.Right t.ts):=hr;clear h hl hr h1;go_enter Tryz.func45,Tryz.ntmps45;go_upto_region 1 with fail
 rw[q.o];go_wp2_with fail;refine m.o.mono ?_;rintro e d ⟨f,rfl,hf,b⟩;have l:Hid (zB w d):=g.o.trans (b.mono (Nat.le_of_lt c));have a:Hid (Blk d w.heap.size #[.slice p len cap,zI t.ff,zI t.fb,zI t.db,zI t.al] 24):=i.o.below b c;have y:d.cell? ⟨w.heap.size,1,none⟩=some (zI t.ff):=a.o.cell 1;have z:d.cell? ⟨w.heap.size,2,none⟩=some (zI t.fb):=a.o.cell 2;have A:d.cell? ⟨w.heap.size,3,none⟩=some (zI t.db):=a.o.cell 3;have B:d.cell? ⟨w.heap.size,4,none⟩=some (zI t.al):=a.o.cell 4;obtain rfl:f=0:=hf.ok.2 s.o;clear hf b c0 c;go_wp2_with fail;refine(j.o _).mono ?_;rintro e C ⟨rfl,r⟩;subst r;go_wp2_with fail
 all_goals first
  |(rename_i q1 q2;exact absurd q1 (by simp[undef]))
  |(go_ret;exact⟨_,rfl,.inr (.inl ⟨s.o,u.o,rfl⟩),l.o⟩)
theorem tfa2(t:Tm)(p:Option Addr)(len cap:Nat)(w:World)(h:RowD w p len t.ts)(hl:len≤maxLen)(hr:tar.Right t.ts)(h1:0≤t.ff∧t.ff≤100000)(h2:¬ (0≤t.fb∧t.fb≤10000)):Calls Tryz.prog 45 #[.agg #[.slice p len cap,zI t.ff,zI t.fb,zI t.db,zI t.al]] w λe w'=>tar.ErrPost w (TFault t) e w':=by
 obtain⟨m,s,j,i,c⟩:=sh1 w #[.slice p len cap,zI t.ff,zI t.fb,zI t.db,zI t.al] 24;have r:Hid (RowD m p len t.ts):=h.below i.o;have c0:m.cell? ⟨w.heap.size,0,none⟩=some (.slice p len cap):=j.o.cell 0;have q:Hid (zC 87 #[.slice p len cap] m λe w'=>tar.ErrPost m (tar.FaultIs t.ts) e w'):=tar.rfault p len cap t.ts _ r.o hl;have k:Hid (∀W,zC 47 #[zI t.ff,zI 0,zI 100000] W λe w'=>e=.returned (.bool (decide (0≤t.ff∧t.ff≤100000)))∧w'=W):=λW=>cal.cin t.ff 0 100000 W;rw[decide_eq_true h1] at k;have l:Hid (∀W,zC 47 #[zI t.fb,zI 0,zI 10000] W λe w'=>e=.returned (.bool (decide (0≤t.fb∧t.fb≤10000)))∧w'=W):=λW=>cal.cin t.fb 0 10000 W;rw[decide_eq_false h2] at l;have x:Hid (¬ TOk t):=λy=>h2 y.2.1;have u:Hid (tar.Right t.ts):=hr;clear h hl hr h1 h2;go_enter Tryz.func45,Tryz.ntmps45;go_upto_region 1 with fail
 rw[s.o];go_wp2_with fail;refine q.o.mono ?_;rintro e g ⟨f,rfl,hf,b⟩;have n:Hid (zB w g):=i.o.trans (b.mono (Nat.le_of_lt c));have a:Hid (Blk g w.heap.size #[.slice p len cap,zI t.ff,zI t.fb,zI t.db,zI t.al] 24):=j.o.below b c;have A:g.cell? ⟨w.heap.size,1,none⟩=some (zI t.ff):=a.o.cell 1;have B:g.cell? ⟨w.heap.size,2,none⟩=some (zI t.fb):=a.o.cell 2;have C:g.cell? ⟨w.heap.size,3,none⟩=some (zI t.db):=a.o.cell 3;have D:g.cell? ⟨w.heap.size,4,none⟩=some (zI t.al):=a.o.cell 4;obtain rfl:f=0:=hf.ok.2 u.o;clear hf b c0 c;go_wp2_with fail;refine(k.o _).mono ?_;rintro e z ⟨rfl,d⟩;subst d;go_wp2_with fail;refine(l.o _).mono ?_;rintro e z ⟨rfl,d⟩;subst d;go_wp2_with fail
 all_goals first
  |(rename_i q1 q2;exact absurd q1 (by simp[undef]))
  |(go_ret;exact⟨_,rfl,.inr (.inl ⟨u.o,x.o,rfl⟩),n.o⟩)
theorem tfa3(t:Tm)(p:Option Addr)(len cap:Nat)(w:World)(h:RowD w p len t.ts)(hl:len≤maxLen)(hr:tar.Right t.ts)(h1:0≤t.ff∧t.ff≤100000)(h2:0≤t.fb∧t.fb≤10000)(h3:¬ (0≤t.db∧t.db≤10000)):Calls Tryz.prog 45 #[.agg #[.slice p len cap,zI t.ff,zI t.fb,zI t.db,zI t.al]] w λe w'=>tar.ErrPost w (TFault t) e w':=by
 obtain⟨n,u,j,i,d⟩:=sh1 w #[.slice p len cap,zI t.ff,zI t.fb,zI t.db,zI t.al] 24;have s:Hid (RowD n p len t.ts):=h.below i.o;have c0:n.cell? ⟨w.heap.size,0,none⟩=some (.slice p len cap):=j.o.cell 0;have r:Hid (zC 87 #[.slice p len cap] n λe w'=>tar.ErrPost n (tar.FaultIs t.ts) e w'):=tar.rfault p len cap t.ts _ s.o hl;have k:Hid (∀W,zC 47 #[zI t.ff,zI 0,zI 100000] W λe w'=>e=.returned (.bool (decide (0≤t.ff∧t.ff≤100000)))∧w'=W):=λW=>cal.cin t.ff 0 100000 W;rw[decide_eq_true h1] at k;have l:Hid (∀W,zC 47 #[zI t.fb,zI 0,zI 10000] W λe w'=>e=.returned (.bool (decide (0≤t.fb∧t.fb≤10000)))∧w'=W):=λW=>cal.cin t.fb 0 10000 W;rw[decide_eq_true h2] at l;have m:Hid (∀W,zC 47 #[zI t.db,zI 0,zI 10000] W λe w'=>e=.returned (.bool (decide (0≤t.db∧t.db≤10000)))∧w'=W):=λW=>cal.cin t.db 0 10000 W;rw[decide_eq_false h3] at m;have z:Hid (¬ TOk t):=λA=>h3 A.2.2.1;have x:Hid (tar.Right t.ts):=hr;clear h hl hr h1 h2 h3;go_enter Tryz.func45,Tryz.ntmps45;go_upto_region 1 with fail
 rw[u.o];go_wp2_with fail;refine r.o.mono ?_;rintro e g ⟨f,rfl,hf,c⟩;have q:Hid (zB w g):=i.o.trans (c.mono (Nat.le_of_lt d));have b:Hid (Blk g w.heap.size #[.slice p len cap,zI t.ff,zI t.fb,zI t.db,zI t.al] 24):=j.o.below c d;have B:g.cell? ⟨w.heap.size,1,none⟩=some (zI t.ff):=b.o.cell 1;have C:g.cell? ⟨w.heap.size,2,none⟩=some (zI t.fb):=b.o.cell 2;have D:g.cell? ⟨w.heap.size,3,none⟩=some (zI t.db):=b.o.cell 3;have E:g.cell? ⟨w.heap.size,4,none⟩=some (zI t.al):=b.o.cell 4;obtain rfl:f=0:=hf.ok.2 x.o;clear hf c c0 d;go_wp2_with fail;refine(k.o _).mono ?_;rintro e y ⟨rfl,a⟩;subst a;go_wp2_with fail;refine(l.o _).mono ?_;rintro e y ⟨rfl,a⟩;subst a;go_wp2_with fail;refine(m.o _).mono ?_;rintro e y ⟨rfl,a⟩;subst a;go_wp2_with fail
 all_goals first
  |(rename_i q1 q2;exact absurd q1 (by simp[undef]))
  |(go_ret;exact⟨_,rfl,.inr (.inl ⟨x.o,z.o,rfl⟩),q.o⟩)
theorem tfa4(t:Tm)(p:Option Addr)(len cap:Nat)(w:World)(h:RowD w p len t.ts)(hl:len≤maxLen)(hr:tar.Right t.ts)(h1:0≤t.ff∧t.ff≤100000)(h2:0≤t.fb∧t.fb≤10000)(h3:0≤t.db∧t.db≤10000)(h4:¬ (0≤t.al∧t.al≤2097151)):Calls Tryz.prog 45 #[.agg #[.slice p len cap,zI t.ff,zI t.fb,zI t.db,zI t.al]] w λe w'=>tar.ErrPost w (TFault t) e w':=by
 obtain⟨q,x,j,i,d⟩:=sh1 w #[.slice p len cap,zI t.ff,zI t.fb,zI t.db,zI t.al] 24;have u:Hid (RowD q p len t.ts):=h.below i.o;have c0:q.cell? ⟨w.heap.size,0,none⟩=some (.slice p len cap):=j.o.cell 0;have s:Hid (zC 87 #[.slice p len cap] q λe w'=>tar.ErrPost q (tar.FaultIs t.ts) e w'):=tar.rfault p len cap t.ts _ u.o hl;have k:Hid (∀W,zC 47 #[zI t.ff,zI 0,zI 100000] W λe w'=>e=.returned (.bool (decide (0≤t.ff∧t.ff≤100000)))∧w'=W):=λW=>cal.cin t.ff 0 100000 W;rw[decide_eq_true h1] at k;have l:Hid (∀W,zC 47 #[zI t.fb,zI 0,zI 10000] W λe w'=>e=.returned (.bool (decide (0≤t.fb∧t.fb≤10000)))∧w'=W):=λW=>cal.cin t.fb 0 10000 W;rw[decide_eq_true h2] at l;have m:Hid (∀W,zC 47 #[zI t.db,zI 0,zI 10000] W λe w'=>e=.returned (.bool (decide (0≤t.db∧t.db≤10000)))∧w'=W):=λW=>cal.cin t.db 0 10000 W;rw[decide_eq_true h3] at m;have n:Hid (∀W,zC 47 #[zI t.al,zI 0,zI 2097151] W λe w'=>e=.returned (.bool (decide (0≤t.al∧t.al≤2097151)))∧w'=W):=λW=>cal.cin t.al 0 2097151 W;rw[decide_eq_false h4] at n;have A:Hid (¬ TOk t):=λB=>h4 B.2.2.2;have z:Hid (tar.Right t.ts):=hr;clear h hl hr h1 h2 h3 h4;go_enter Tryz.func45,Tryz.ntmps45;go_upto_region 1 with fail
 rw[x.o];go_wp2_with fail;refine s.o.mono ?_;rintro e g ⟨f,rfl,hf,c⟩;have r:Hid (zB w g):=i.o.trans (c.mono (Nat.le_of_lt d));have b:Hid (Blk g w.heap.size #[.slice p len cap,zI t.ff,zI t.fb,zI t.db,zI t.al] 24):=j.o.below c d;have C:g.cell? ⟨w.heap.size,1,none⟩=some (zI t.ff):=b.o.cell 1;have D:g.cell? ⟨w.heap.size,2,none⟩=some (zI t.fb):=b.o.cell 2;have E:g.cell? ⟨w.heap.size,3,none⟩=some (zI t.db):=b.o.cell 3;have F:g.cell? ⟨w.heap.size,4,none⟩=some (zI t.al):=b.o.cell 4;obtain rfl:f=0:=hf.ok.2 z.o;clear hf c c0 d;go_wp2_with fail;refine(k.o _).mono ?_;rintro e y ⟨rfl,a⟩;subst a;go_wp2_with fail;refine(l.o _).mono ?_;rintro e y ⟨rfl,a⟩;subst a;go_wp2_with fail;refine(m.o _).mono ?_;rintro e y ⟨rfl,a⟩;subst a;go_wp2_with fail;refine(n.o _).mono ?_;rintro e y ⟨rfl,a⟩;subst a;go_wp2_with fail
 all_goals first
  |(rename_i q1 q2;exact absurd q1 (by simp[undef]))
  |(go_ret;exact⟨_,rfl,.inr (.inl ⟨z.o,A.o,rfl⟩),r.o⟩)
theorem tfa5(t:Tm)(p:Option Addr)(len cap:Nat)(w:World)(h:RowD w p len t.ts)(hl:len≤maxLen)(hr:tar.Right t.ts)(h1:0≤t.ff∧t.ff≤100000)(h2:0≤t.fb∧t.fb≤10000)(h3:0≤t.db∧t.db≤10000)(h4:0≤t.al∧t.al≤2097151):Calls Tryz.prog 45 #[.agg #[.slice p len cap,zI t.ff,zI t.fb,zI t.db,zI t.al]] w λe w'=>tar.ErrPost w (TFault t) e w':=by
 obtain⟨q,x,j,i,d⟩:=sh1 w #[.slice p len cap,zI t.ff,zI t.fb,zI t.db,zI t.al] 24;have u:Hid (RowD q p len t.ts):=h.below i.o;have c0:q.cell? ⟨w.heap.size,0,none⟩=some (.slice p len cap):=j.o.cell 0;have s:Hid (zC 87 #[.slice p len cap] q λe w'=>tar.ErrPost q (tar.FaultIs t.ts) e w'):=tar.rfault p len cap t.ts _ u.o hl;have k:Hid (∀W,zC 47 #[zI t.ff,zI 0,zI 100000] W λe w'=>e=.returned (.bool (decide (0≤t.ff∧t.ff≤100000)))∧w'=W):=λW=>cal.cin t.ff 0 100000 W;rw[decide_eq_true h1] at k;have l:Hid (∀W,zC 47 #[zI t.fb,zI 0,zI 10000] W λe w'=>e=.returned (.bool (decide (0≤t.fb∧t.fb≤10000)))∧w'=W):=λW=>cal.cin t.fb 0 10000 W;rw[decide_eq_true h2] at l;have m:Hid (∀W,zC 47 #[zI t.db,zI 0,zI 10000] W λe w'=>e=.returned (.bool (decide (0≤t.db∧t.db≤10000)))∧w'=W):=λW=>cal.cin t.db 0 10000 W;rw[decide_eq_true h3] at m;have n:Hid (∀W,zC 47 #[zI t.al,zI 0,zI 2097151] W λe w'=>e=.returned (.bool (decide (0≤t.al∧t.al≤2097151)))∧w'=W):=λW=>cal.cin t.al 0 2097151 W;rw[decide_eq_true h4] at n;have A:Hid (TOk t):=⟨h1,h2,h3,h4⟩
 have z:Hid (tar.Right t.ts):=hr;clear h hl hr h1 h2 h3 h4;go_enter Tryz.func45,Tryz.ntmps45;go_upto_region 1 with fail
 rw[x.o];go_wp2_with fail;refine s.o.mono ?_;rintro e g ⟨f,rfl,hf,c⟩;have r:Hid (zB w g):=i.o.trans (c.mono (Nat.le_of_lt d));have b:Hid (Blk g w.heap.size #[.slice p len cap,zI t.ff,zI t.fb,zI t.db,zI t.al] 24):=j.o.below c d;have B:g.cell? ⟨w.heap.size,1,none⟩=some (zI t.ff):=b.o.cell 1;have C:g.cell? ⟨w.heap.size,2,none⟩=some (zI t.fb):=b.o.cell 2;have D:g.cell? ⟨w.heap.size,3,none⟩=some (zI t.db):=b.o.cell 3;have E:g.cell? ⟨w.heap.size,4,none⟩=some (zI t.al):=b.o.cell 4;obtain rfl:f=0:=hf.ok.2 z.o;clear hf c c0 d;go_wp2_with fail;refine(k.o _).mono ?_;rintro e y ⟨rfl,a⟩;subst a;go_wp2_with fail;refine(l.o _).mono ?_;rintro e y ⟨rfl,a⟩;subst a;go_wp2_with fail;refine(m.o _).mono ?_;rintro e y ⟨rfl,a⟩;subst a;go_wp2_with fail;refine(n.o _).mono ?_;rintro e y ⟨rfl,a⟩;subst a;go_wp2_with fail
 all_goals first
  |(rename_i q1 q2;exact absurd q1 (by simp[undef]))
  |(go_ret;exact⟨_,rfl,.inr (.inr ⟨⟨z.o,A.o⟩,rfl⟩),r.o⟩)
theorem rterms(t:Tm)(p:Option Addr)(len cap:Nat)(w:World)(h:RowD w p len t.ts)(hl:len≤maxLen):Calls Tryz.prog 45 #[.agg #[.slice p len cap,zI t.ff,zI t.fb,zI t.db,zI t.al]] w λe w'=>tar.ErrPost w (TFault t) e w':=by
 by_cases a:tar.Right t.ts
 ·by_cases b:0≤t.ff∧t.ff≤100000
  ·by_cases c:0≤t.fb∧t.fb≤10000
   ·by_cases d:0≤t.db∧t.db≤10000
    ·by_cases f:0≤t.al∧t.al≤2097151
     ·exact tfa5 t p len cap w h hl a b c d f
     ·exact tfa4 t p len cap w h hl a b c d f
    ·exact tfa3 t p len cap w h hl a b c d
   ·exact tfa2 t p len cap w h hl a b c
  ·exact tfa1 t p len cap w h hl a b
 ·exact tfa0 t p len cap w h hl a
end acc
namespace book
open Go.RowKit cell
def cellsK(l:List Int)(k:Nat):Array Value:=((l.take k++List.replicate (13-k) 0).map (λx=>Value.int .i64 x)).toArray
theorem cellsK_size(l:List Int)(h:l.length=13)(k:Nat)(hk:k≤13):(cellsK l k).size=13:=by simp[cellsK,h];omega
theorem cellsK_next(l:List Int)(h:l.length=13)(k:Nat)(hk:k<13):(cellsK l k).setIfInBounds k (zI (l.getD k 0))=cellsK l (k+1):=by
 match l,h with
 |[a0,a1,a2,a3,a4,a5,a6,a7,a8,a9,a10,a11,a12],_=>
  match k,hk with
  |0,_=>rfl
  |1,_=>rfl
  |2,_=>rfl
  |3,_=>rfl
  |4,_=>rfl
  |5,_=>rfl
  |6,_=>rfl
  |7,_=>rfl
  |8,_=>rfl
  |9,_=>rfl
  |10,_=>rfl
  |11,_=>rfl
  |12,_=>rfl
theorem cellsK_all(l:List Int)(h:l.length=13):cellsK l 13=(evOf l).cs:=by
 match l,h with
 |[a0,a1,a2,a3,a4,a5,a6,a7,a8,a9,a10,a11,a12],_=>rfl
theorem indexP_0(g:Nat)(W:World):(Instr.index 265 (.agg #[.pointer (some ⟨g,0,none⟩),.pointer (some ⟨g,1,none⟩),.pointer (some ⟨g,2,none⟩),.pointer (some ⟨g,3,none⟩),.pointer (some ⟨g,4,none⟩),.pointer (some ⟨g,5,none⟩),.pointer (some ⟨g,6,none⟩),.pointer (some ⟨g,7,none⟩),.pointer (some ⟨g,8,none⟩),.pointer (some ⟨g,9,none⟩),.pointer (some ⟨g,10,none⟩),.pointer (some ⟨g,11,none⟩),.pointer (some ⟨g,12,none⟩)]) (zI 0)).run Tryz.prog W=.ok (.pointer (some ⟨g,0,none⟩)) W:=by kernel_rfl
theorem indexP_1(g:Nat)(W:World):(Instr.index 265 (.agg #[.pointer (some ⟨g,0,none⟩),.pointer (some ⟨g,1,none⟩),.pointer (some ⟨g,2,none⟩),.pointer (some ⟨g,3,none⟩),.pointer (some ⟨g,4,none⟩),.pointer (some ⟨g,5,none⟩),.pointer (some ⟨g,6,none⟩),.pointer (some ⟨g,7,none⟩),.pointer (some ⟨g,8,none⟩),.pointer (some ⟨g,9,none⟩),.pointer (some ⟨g,10,none⟩),.pointer (some ⟨g,11,none⟩),.pointer (some ⟨g,12,none⟩)]) (zI 1)).run Tryz.prog W=.ok (.pointer (some ⟨g,1,none⟩)) W:=by kernel_rfl
theorem indexP_2(g:Nat)(W:World):(Instr.index 265 (.agg #[.pointer (some ⟨g,0,none⟩),.pointer (some ⟨g,1,none⟩),.pointer (some ⟨g,2,none⟩),.pointer (some ⟨g,3,none⟩),.pointer (some ⟨g,4,none⟩),.pointer (some ⟨g,5,none⟩),.pointer (some ⟨g,6,none⟩),.pointer (some ⟨g,7,none⟩),.pointer (some ⟨g,8,none⟩),.pointer (some ⟨g,9,none⟩),.pointer (some ⟨g,10,none⟩),.pointer (some ⟨g,11,none⟩),.pointer (some ⟨g,12,none⟩)]) (zI 2)).run Tryz.prog W=.ok (.pointer (some ⟨g,2,none⟩)) W:=by kernel_rfl
theorem indexP_3(g:Nat)(W:World):(Instr.index 265 (.agg #[.pointer (some ⟨g,0,none⟩),.pointer (some ⟨g,1,none⟩),.pointer (some ⟨g,2,none⟩),.pointer (some ⟨g,3,none⟩),.pointer (some ⟨g,4,none⟩),.pointer (some ⟨g,5,none⟩),.pointer (some ⟨g,6,none⟩),.pointer (some ⟨g,7,none⟩),.pointer (some ⟨g,8,none⟩),.pointer (some ⟨g,9,none⟩),.pointer (some ⟨g,10,none⟩),.pointer (some ⟨g,11,none⟩),.pointer (some ⟨g,12,none⟩)]) (zI 3)).run Tryz.prog W=.ok (.pointer (some ⟨g,3,none⟩)) W:=by kernel_rfl
theorem indexP_4(g:Nat)(W:World):(Instr.index 265 (.agg #[.pointer (some ⟨g,0,none⟩),.pointer (some ⟨g,1,none⟩),.pointer (some ⟨g,2,none⟩),.pointer (some ⟨g,3,none⟩),.pointer (some ⟨g,4,none⟩),.pointer (some ⟨g,5,none⟩),.pointer (some ⟨g,6,none⟩),.pointer (some ⟨g,7,none⟩),.pointer (some ⟨g,8,none⟩),.pointer (some ⟨g,9,none⟩),.pointer (some ⟨g,10,none⟩),.pointer (some ⟨g,11,none⟩),.pointer (some ⟨g,12,none⟩)]) (zI 4)).run Tryz.prog W=.ok (.pointer (some ⟨g,4,none⟩)) W:=by kernel_rfl
theorem indexP_5(g:Nat)(W:World):(Instr.index 265 (.agg #[.pointer (some ⟨g,0,none⟩),.pointer (some ⟨g,1,none⟩),.pointer (some ⟨g,2,none⟩),.pointer (some ⟨g,3,none⟩),.pointer (some ⟨g,4,none⟩),.pointer (some ⟨g,5,none⟩),.pointer (some ⟨g,6,none⟩),.pointer (some ⟨g,7,none⟩),.pointer (some ⟨g,8,none⟩),.pointer (some ⟨g,9,none⟩),.pointer (some ⟨g,10,none⟩),.pointer (some ⟨g,11,none⟩),.pointer (some ⟨g,12,none⟩)]) (zI 5)).run Tryz.prog W=.ok (.pointer (some ⟨g,5,none⟩)) W:=by kernel_rfl
theorem indexP_6(g:Nat)(W:World):(Instr.index 265 (.agg #[.pointer (some ⟨g,0,none⟩),.pointer (some ⟨g,1,none⟩),.pointer (some ⟨g,2,none⟩),.pointer (some ⟨g,3,none⟩),.pointer (some ⟨g,4,none⟩),.pointer (some ⟨g,5,none⟩),.pointer (some ⟨g,6,none⟩),.pointer (some ⟨g,7,none⟩),.pointer (some ⟨g,8,none⟩),.pointer (some ⟨g,9,none⟩),.pointer (some ⟨g,10,none⟩),.pointer (some ⟨g,11,none⟩),.pointer (some ⟨g,12,none⟩)]) (zI 6)).run Tryz.prog W=.ok (.pointer (some ⟨g,6,none⟩)) W:=by kernel_rfl
theorem indexP_7(g:Nat)(W:World):(Instr.index 265 (.agg #[.pointer (some ⟨g,0,none⟩),.pointer (some ⟨g,1,none⟩),.pointer (some ⟨g,2,none⟩),.pointer (some ⟨g,3,none⟩),.pointer (some ⟨g,4,none⟩),.pointer (some ⟨g,5,none⟩),.pointer (some ⟨g,6,none⟩),.pointer (some ⟨g,7,none⟩),.pointer (some ⟨g,8,none⟩),.pointer (some ⟨g,9,none⟩),.pointer (some ⟨g,10,none⟩),.pointer (some ⟨g,11,none⟩),.pointer (some ⟨g,12,none⟩)]) (zI 7)).run Tryz.prog W=.ok (.pointer (some ⟨g,7,none⟩)) W:=by kernel_rfl
theorem indexP_8(g:Nat)(W:World):(Instr.index 265 (.agg #[.pointer (some ⟨g,0,none⟩),.pointer (some ⟨g,1,none⟩),.pointer (some ⟨g,2,none⟩),.pointer (some ⟨g,3,none⟩),.pointer (some ⟨g,4,none⟩),.pointer (some ⟨g,5,none⟩),.pointer (some ⟨g,6,none⟩),.pointer (some ⟨g,7,none⟩),.pointer (some ⟨g,8,none⟩),.pointer (some ⟨g,9,none⟩),.pointer (some ⟨g,10,none⟩),.pointer (some ⟨g,11,none⟩),.pointer (some ⟨g,12,none⟩)]) (zI 8)).run Tryz.prog W=.ok (.pointer (some ⟨g,8,none⟩)) W:=by kernel_rfl
theorem indexP_9(g:Nat)(W:World):(Instr.index 265 (.agg #[.pointer (some ⟨g,0,none⟩),.pointer (some ⟨g,1,none⟩),.pointer (some ⟨g,2,none⟩),.pointer (some ⟨g,3,none⟩),.pointer (some ⟨g,4,none⟩),.pointer (some ⟨g,5,none⟩),.pointer (some ⟨g,6,none⟩),.pointer (some ⟨g,7,none⟩),.pointer (some ⟨g,8,none⟩),.pointer (some ⟨g,9,none⟩),.pointer (some ⟨g,10,none⟩),.pointer (some ⟨g,11,none⟩),.pointer (some ⟨g,12,none⟩)]) (zI 9)).run Tryz.prog W=.ok (.pointer (some ⟨g,9,none⟩)) W:=by kernel_rfl
theorem indexP_10(g:Nat)(W:World):(Instr.index 265 (.agg #[.pointer (some ⟨g,0,none⟩),.pointer (some ⟨g,1,none⟩),.pointer (some ⟨g,2,none⟩),.pointer (some ⟨g,3,none⟩),.pointer (some ⟨g,4,none⟩),.pointer (some ⟨g,5,none⟩),.pointer (some ⟨g,6,none⟩),.pointer (some ⟨g,7,none⟩),.pointer (some ⟨g,8,none⟩),.pointer (some ⟨g,9,none⟩),.pointer (some ⟨g,10,none⟩),.pointer (some ⟨g,11,none⟩),.pointer (some ⟨g,12,none⟩)]) (zI 10)).run Tryz.prog W=.ok (.pointer (some ⟨g,10,none⟩)) W:=by kernel_rfl
theorem indexP_11(g:Nat)(W:World):(Instr.index 265 (.agg #[.pointer (some ⟨g,0,none⟩),.pointer (some ⟨g,1,none⟩),.pointer (some ⟨g,2,none⟩),.pointer (some ⟨g,3,none⟩),.pointer (some ⟨g,4,none⟩),.pointer (some ⟨g,5,none⟩),.pointer (some ⟨g,6,none⟩),.pointer (some ⟨g,7,none⟩),.pointer (some ⟨g,8,none⟩),.pointer (some ⟨g,9,none⟩),.pointer (some ⟨g,10,none⟩),.pointer (some ⟨g,11,none⟩),.pointer (some ⟨g,12,none⟩)]) (zI 11)).run Tryz.prog W=.ok (.pointer (some ⟨g,11,none⟩)) W:=by kernel_rfl
theorem indexP_12(g:Nat)(W:World):(Instr.index 265 (.agg #[.pointer (some ⟨g,0,none⟩),.pointer (some ⟨g,1,none⟩),.pointer (some ⟨g,2,none⟩),.pointer (some ⟨g,3,none⟩),.pointer (some ⟨g,4,none⟩),.pointer (some ⟨g,5,none⟩),.pointer (some ⟨g,6,none⟩),.pointer (some ⟨g,7,none⟩),.pointer (some ⟨g,8,none⟩),.pointer (some ⟨g,9,none⟩),.pointer (some ⟨g,10,none⟩),.pointer (some ⟨g,11,none⟩),.pointer (some ⟨g,12,none⟩)]) (zI 12)).run Tryz.prog W=.ok (.pointer (some ⟨g,12,none⟩)) W:=by kernel_rfl
theorem indexP(g:Nat)(k:Nat)(hk:k<13)(W:World):(Instr.index 265 (.agg #[.pointer (some ⟨g,0,none⟩),.pointer (some ⟨g,1,none⟩),.pointer (some ⟨g,2,none⟩),.pointer (some ⟨g,3,none⟩),.pointer (some ⟨g,4,none⟩),.pointer (some ⟨g,5,none⟩),.pointer (some ⟨g,6,none⟩),.pointer (some ⟨g,7,none⟩),.pointer (some ⟨g,8,none⟩),.pointer (some ⟨g,9,none⟩),.pointer (some ⟨g,10,none⟩),.pointer (some ⟨g,11,none⟩),.pointer (some ⟨g,12,none⟩)]) (zI (k:Int))).run Tryz.prog W=.ok (.pointer (some ⟨g,k,none⟩)) W:=by
 match k,hk with
 |0,_=>exact indexP_0 g W
 |1,_=>exact indexP_1 g W
 |2,_=>exact indexP_2 g W
 |3,_=>exact indexP_3 g W
 |4,_=>exact indexP_4 g W
 |5,_=>exact indexP_5 g W
 |6,_=>exact indexP_6 g W
 |7,_=>exact indexP_7 g W
 |8,_=>exact indexP_8 g W
 |9,_=>exact indexP_9 g W
 |10,_=>exact indexP_10 g W
 |11,_=>exact indexP_11 g W
 |12,_=>exact indexP_12 g W
theorem bevent(a:Option Addr)(cap:Nat)(l:List Int)(w:World)(hr:RowU w a 13 l)(hm:∀x∈l,0≤x∧x<4294967296):Calls Tryz.prog 151 #[.slice a 13 cap] w λe w'=>e=.returned (evOf l).v∧zB w w':=by
 have h:=hr.1;obtain⟨b,y,rfl,lb,Z⟩:=hr.at (by decide)
 have T:Hid (∀ k,k<13→0≤l.getD k 0∧l.getD k 0<4294967296):=fun k n=>hm _ (by
  have hl:k<l.length:=by omega
  rw[show l.getD k 0=l[k] by simp[List.getD,List.getElem?_eq_getElem hl]]
  exact List.getElem_mem _)
 have S:Hid (∀W,zB w W→∀k,k<13→W.cell? ⟨b,y+k,none⟩=some (.int .u32 (l.getD k 0))):=λW hB k n=>(hB.cell (p:=⟨b,y+k,none⟩) lb).trans (Z k n);have r:Hid (∀k:Nat,k<13→∀W,(Instr.index 265 (.agg #[.pointer (some ⟨w.heap.size+1,0,none⟩),.pointer (some ⟨w.heap.size+1,1,none⟩),.pointer (some ⟨w.heap.size+1,2,none⟩),.pointer (some ⟨w.heap.size+1,3,none⟩),.pointer (some ⟨w.heap.size+1,4,none⟩),.pointer (some ⟨w.heap.size+1,5,none⟩),.pointer (some ⟨w.heap.size+1,6,none⟩),.pointer (some ⟨w.heap.size+1,7,none⟩),.pointer (some ⟨w.heap.size+1,8,none⟩),.pointer (some ⟨w.heap.size+1,9,none⟩),.pointer (some ⟨w.heap.size+1,10,none⟩),.pointer (some ⟨w.heap.size+1,11,none⟩),.pointer (some ⟨w.heap.size+1,12,none⟩)]) (zI (k:Int))).run Tryz.prog W=.ok (.pointer (some ⟨w.heap.size+1,k,none⟩)) W):=λk n W=>indexP _ k n W;have A:=zh h;clear hm Z hr lb h;obtain⟨W0,F,s,t,d,q,-⟩:=sh3 w #[zI 0,zI 0,zI 0,zI 0,zI 0,zI 0,zI 0,zI 0,zI 0,zI 0,zI 0,zI 0,zI 0] 44 #[zI 0,zI 0,zI 0,zI 0,zI 0,zI 0,zI 0,zI 0,zI 0,zI 0,zI 0,zI 0,zI 0] 44 #[.pointer (some ⟨w.heap.size+1,0,none⟩),.pointer (some ⟨w.heap.size+1,1,none⟩),.pointer (some ⟨w.heap.size+1,2,none⟩),.pointer (some ⟨w.heap.size+1,3,none⟩),.pointer (some ⟨w.heap.size+1,4,none⟩),.pointer (some ⟨w.heap.size+1,5,none⟩),.pointer (some ⟨w.heap.size+1,6,none⟩),.pointer (some ⟨w.heap.size+1,7,none⟩),.pointer (some ⟨w.heap.size+1,8,none⟩),.pointer (some ⟨w.heap.size+1,9,none⟩),.pointer (some ⟨w.heap.size+1,10,none⟩),.pointer (some ⟨w.heap.size+1,11,none⟩),.pointer (some ⟨w.heap.size+1,12,none⟩)] 265;go_enter Tryz.func151,Tryz.ntmps151;go_upto_region 3 with fail
 rw[F.o];have p0:=zy0 d;have p1:=zy1 d;have p2:=zy2 d;have p3:=zy3 d;have p4:=zy4 d;have p5:=zy5 d;have p6:=zy6 d;have p7:=zy7 d;have p8:=zy8 d;have p9:=zy9 d;have M:=zy10 d;have N:=zy11 d;have O:=zy12 d;go_wp2_with fail;clear p0 p1 p2 p3 p4 p5 p6 p7 p8 p9 M N O;go_loopw [31] (λm wr=>∃(k:Nat),k≤13∧m=zI (k:Int)∧Blk wr w.heap.size #[zI 0,zI 0,zI 0,zI 0,zI 0,zI 0,zI 0,zI 0,zI 0,zI 0,zI 0,zI 0,zI 0] 44∧Blk wr (w.heap.size+1) (cellsK l k) 44∧zB w wr) (λm _=>13-(intOf m).toNat)
 case atStart=>exact⟨0,Nat.zero_le _,rfl,s.o,t.o,q.o⟩
 case round=>
  obtain⟨k,n,rfl,V,X,u⟩:=hrel;have HR:=zh V;have U:=zh X;have j:=zh u;clear V X u s t q;by_cases f:k<13
  ·have a0:=r.o k f;have hz:=T.o k f;have J:=S.o wr j.o k f;have B:Hid ((cellsK l k).setIfInBounds k (zI (l.getD k 0))=cellsK l (k+1)):=cellsK_next l A.o k f;have L:k<(cellsK l k).size:=by rw[cellsK_size l A.o k n];exact f
   clear r T S;generalize l.getD k 0=z at *;have a1:IntKind.i64.wrap z=z:=by rw[IntKind.wrap_i64];omega
   have K:decide ((k:Int)<13)=true:=decide_eq_true (by omega);have Y:(0:Int)≤(k:Int)∧(k:Int)<((13:Nat):Int):=by omega
   clear hz;go_wp2_with (first|(refine wp_let1 rfl 3 _ _ rfl (w.heap.size+1) k rfl .i64 z rfl (by kernel_rfl) (cellsK l k) 44 U.o L ?_)|fail)
   intro W3 g;have H3:Hid (Blk W3 (w.heap.size+1) (cellsK l (k+1)) 44):=by show Blk _ _ _ _;rw[← B.o];exact g.blk
   have C:=zk1 g HR;have i:=zk g j;clear g J;go_wp2_with fail;go_roundw
   case rel=>exact⟨k+1,by omega,by go_num,C.o,H3.o,i.o⟩
   case measure=>simp[intOf];omega
  ·obtain rfl:k=13:=by omega
   have K:decide (((13:Nat):Int)<13)=false:=decide_eq_false (by omega)
   have c:Hid (Blk wr (w.heap.size+1) (evOf l).cs 44):=by
    show Blk _ _ _ _;rw[← cellsK_all l A.o];exact U.o
   obtain⟨v,hv⟩:∃v,v=evOf l:=⟨_,rfl⟩
   have E:=zh hv;rw[← hv] at c;clear hv;unfold Ev.cs at c;have c0:=zy0 c;have c1:=zy1 c;have c2:=zy2 c;have c3:=zy3 c;have c4:=zy4 c;have c5:=zy5 c;have c6:=zy6 c;have c7:=zy7 c;have c8:=zy8 c;have c9:=zy9 c;have G:=zy10 c;have H:=zy11 c;have I:=zy12 c;go_wp2_with refine zs ?_;intro W3 g;have D:=zyb g;have i:=zk g j;clear g c0 c1 c2 c3 c4 c5 c6 c7 c8 c9 G H I;obtain⟨r0,r1,r2,r3,r4,r5,r6,r7,r8,r9,P,Q,R⟩:=scl13 D;go_wp2_with fail;exact zr (.agg #[zI v.kd,zI v.me,zI v.mo,zI v.id,zI v.te,zI v.de,zI v.fe,zI v.pr,zI v.ch,zI v.un,zI v.tg,zI v.ow,zI v.bp]) (by simp[results,Tryz.results151,r0,r1,r2,r3,r4,r5,r6,r7,r8,r9,P,Q,R,go_sem]) ⟨by rw[← E.o];rfl,i.o⟩
end book
end Go.Proofs.YtoepgdhiepedeaaGreatDoor
