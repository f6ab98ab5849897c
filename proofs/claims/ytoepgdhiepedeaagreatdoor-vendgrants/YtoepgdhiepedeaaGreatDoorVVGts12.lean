import Derived.Test.YtoepgdhiepedeaaGreatDoorVVGts7
import Derived.Test.YtoepgdhiepedeaaGreatDoorVVGts8
set_option linter.unusedVariables false
set_option linter.unusedSimpArgs false
set_option maxHeartbeats 4000000
set_option maxRecDepth 100000
namespace Go.Proofs.YtoepgdhiepedeaaGreatDoor
namespace acc
open tar (Du du0 Came RowD Ld PairT)
open Go.RowKit
theorem amay0(x:Ac)(p:Option Addr)(len cap:Nat)(w:World)(h:RowD w p len x.ds)(hl:len≤maxLen)(hd:¬ deb.Mays x.ds):Calls Tryz.prog 44 #[.agg #[zI x.me,zI x.rv,zI x.nx,zI x.mo,zI x.bo,zI x.fr,.slice p len cap]] w λe w'=>e=.returned (.bool false)∧zB w w':=by
 obtain⟨i,g,b,a,-⟩:=sh1 w #[zI x.me,zI x.rv,zI x.nx,zI x.mo,zI x.bo,zI x.fr,.slice p len cap] 55;have d:Hid (RowD i p len x.ds):=h.below a.o;obtain⟨c0,c1,c2,m,n,q,r⟩:=scl7 b;have c:Hid (zC 86 #[.slice p len cap] i λe w'=>∃f,e=.returned (zI f)∧deb.FaultIs x.ds f∧w'=i):=deb.rfault p len cap x.ds _ d.o hl;have k:Hid (¬ deb.Mays x.ds):=hd;clear h hl hd;go_enter Tryz.func44,Tryz.ntmps44;go_upto_region 1 with fail
 rw[g.o];go_wp2_with fail;refine c.o.mono ?_;rintro e s ⟨f,rfl,hf,j⟩;subst j;have l:(f != 0)=true:=by simpa using λe=>k.o (hf.ok.1 e)
 clear hf;go_wp2_with fail
 all_goals first
  |(rename_i q1 q2;exact absurd q1 (by simp[undef]))
  |(go_ret;exact⟨rfl,a.o⟩)
theorem amay1(x:Ac)(p:Option Addr)(len cap:Nat)(w:World)(h:RowD w p len x.ds)(hl:len≤maxLen)(hd:deb.Mays x.ds)(h1:¬ (0≤x.me∧x.me≤49)):Calls Tryz.prog 44 #[.agg #[zI x.me,zI x.rv,zI x.nx,zI x.mo,zI x.bo,zI x.fr,.slice p len cap]] w λe w'=>e=.returned (.bool false)∧zB w w':=by
 obtain⟨j,i,c,a,-⟩:=sh1 w #[zI x.me,zI x.rv,zI x.nx,zI x.mo,zI x.bo,zI x.fr,.slice p len cap] 55;have g:Hid (RowD j p len x.ds):=h.below a.o;obtain⟨c0,c1,c2,n,q,r,s⟩:=scl7 c;have d:Hid (zC 86 #[.slice p len cap] j λe w'=>∃f,e=.returned (zI f)∧deb.FaultIs x.ds f∧w'=j):=deb.rfault p len cap x.ds _ g.o hl;have b:Hid (∀W,zC 47 #[zI x.me,zI 0,zI 49] W λe w'=>e=.returned (.bool (decide (0≤x.me∧x.me≤49)))∧w'=W):=λW=>cal.cin x.me 0 49 W;rw[decide_eq_false h1] at b;have m:Hid (deb.Mays x.ds):=hd;clear h hl hd h1;go_enter Tryz.func44,Tryz.ntmps44;go_upto_region 1 with fail
 rw[i.o];go_wp2_with fail;refine d.o.mono ?_;rintro e t ⟨f,rfl,hf,k⟩;subst k;obtain rfl:f=0:=hf.ok.2 m.o;clear hf;go_wp2_with fail;refine(b.o _).mono ?_;rintro e u ⟨rfl,l⟩;subst l;go_wp2_with fail
 all_goals first
  |(rename_i q1 q2;exact absurd q1 (by simp[undef]))
  |(go_ret;exact⟨rfl,a.o⟩)
theorem amay2(x:Ac)(p:Option Addr)(len cap:Nat)(w:World)(h:RowD w p len x.ds)(hl:len≤maxLen)(hd:deb.Mays x.ds)(h1:0≤x.me∧x.me≤49)(h2:¬ (0≤x.rv∧x.rv≤15)):Calls Tryz.prog 44 #[.agg #[zI x.me,zI x.rv,zI x.nx,zI x.mo,zI x.bo,zI x.fr,.slice p len cap]] w λe w'=>e=.returned (.bool false)∧zB w w':=by
 obtain⟨l,k,g,b,-⟩:=sh1 w #[zI x.me,zI x.rv,zI x.nx,zI x.mo,zI x.bo,zI x.fr,.slice p len cap] 55;have j:Hid (RowD l p len x.ds):=h.below b.o;obtain⟨c0,c1,c2,r,s,t,u⟩:=scl7 g;have i:Hid (zC 86 #[.slice p len cap] l λe w'=>∃f,e=.returned (zI f)∧deb.FaultIs x.ds f∧w'=l):=deb.rfault p len cap x.ds _ j.o hl;have c:Hid (∀W,zC 47 #[zI x.me,zI 0,zI 49] W λe w'=>e=.returned (.bool (decide (0≤x.me∧x.me≤49)))∧w'=W):=λW=>cal.cin x.me 0 49 W;rw[decide_eq_true h1] at c;have d:Hid (∀W,zC 47 #[zI x.rv,zI 0,zI 15] W λe w'=>e=.returned (.bool (decide (0≤x.rv∧x.rv≤15)))∧w'=W):=λW=>cal.cin x.rv 0 15 W;rw[decide_eq_false h2] at d;have n:Hid (deb.Mays x.ds):=hd;clear h hl hd h1 h2;go_enter Tryz.func44,Tryz.ntmps44;go_upto_region 1 with fail
 rw[k.o];go_wp2_with fail;refine i.o.mono ?_;rintro e y ⟨f,rfl,hf,m⟩;subst m;obtain rfl:f=0:=hf.ok.2 n.o;clear hf;go_wp2_with fail;refine(c.o _).mono ?_;rintro e q ⟨rfl,a⟩;subst a;go_wp2_with fail;refine(d.o _).mono ?_;rintro e q ⟨rfl,a⟩;subst a;go_wp2_with fail
 all_goals first
  |(rename_i q1 q2;exact absurd q1 (by simp[undef]))
  |(go_ret;exact⟨rfl,b.o⟩)
theorem amay3(x:Ac)(p:Option Addr)(len cap:Nat)(w:World)(h:RowD w p len x.ds)(hl:len≤maxLen)(hd:deb.Mays x.ds)(h1:0≤x.me∧x.me≤49)(h2:0≤x.rv∧x.rv≤15)(h3:¬ (1≤x.nx∧x.nx≤1048576)):Calls Tryz.prog 44 #[.agg #[zI x.me,zI x.rv,zI x.nx,zI x.mo,zI x.bo,zI x.fr,.slice p len cap]] w λe w'=>e=.returned (.bool false)∧zB w w':=by
 obtain⟨m,l,i,b,-⟩:=sh1 w #[zI x.me,zI x.rv,zI x.nx,zI x.mo,zI x.bo,zI x.fr,.slice p len cap] 55;have k:Hid (RowD m p len x.ds):=h.below b.o;obtain⟨c0,c1,c2,s,t,u,y⟩:=scl7 i;have j:Hid (zC 86 #[.slice p len cap] m λe w'=>∃f,e=.returned (zI f)∧deb.FaultIs x.ds f∧w'=m):=deb.rfault p len cap x.ds _ k.o hl;have c:Hid (∀W,zC 47 #[zI x.me,zI 0,zI 49] W λe w'=>e=.returned (.bool (decide (0≤x.me∧x.me≤49)))∧w'=W):=λW=>cal.cin x.me 0 49 W;rw[decide_eq_true h1] at c;have d:Hid (∀W,zC 47 #[zI x.rv,zI 0,zI 15] W λe w'=>e=.returned (.bool (decide (0≤x.rv∧x.rv≤15)))∧w'=W):=λW=>cal.cin x.rv 0 15 W;rw[decide_eq_true h2] at d;have g:Hid (∀W,zC 47 #[zI x.nx,zI 1,zI 1048576] W λe w'=>e=.returned (.bool (decide (1≤x.nx∧x.nx≤1048576)))∧w'=W):=λW=>cal.cin x.nx 1 1048576 W;rw[decide_eq_false h3] at g;have r:Hid (deb.Mays x.ds):=hd;clear h hl hd h1 h2 h3;go_enter Tryz.func44,Tryz.ntmps44;go_upto_region 1 with fail
 rw[l.o];go_wp2_with fail;refine j.o.mono ?_;rintro e z ⟨f,rfl,hf,n⟩;subst n;obtain rfl:f=0:=hf.ok.2 r.o;clear hf;go_wp2_with fail;refine(c.o _).mono ?_;rintro e q ⟨rfl,a⟩;subst a;go_wp2_with fail;refine(d.o _).mono ?_;rintro e q ⟨rfl,a⟩;subst a;go_wp2_with fail;refine(g.o _).mono ?_;rintro e q ⟨rfl,a⟩;subst a;go_wp2_with fail
 all_goals first
  |(rename_i q1 q2;exact absurd q1 (by simp[undef]))
  |(go_ret;exact⟨rfl,b.o⟩)
theorem amay4(x:Ac)(p:Option Addr)(len cap:Nat)(w:World)(h:RowD w p len x.ds)(hl:len≤maxLen)(hd:deb.Mays x.ds)(h1:0≤x.me∧x.me≤49)(h2:0≤x.rv∧x.rv≤15)(h3:1≤x.nx∧x.nx≤1048576)(h4:¬ (0≤x.mo∧x.mo≤2399)):Calls Tryz.prog 44 #[.agg #[zI x.me,zI x.rv,zI x.nx,zI x.mo,zI x.bo,zI x.fr,.slice p len cap]] w λe w'=>e=.returned (.bool false)∧zB w w':=by
 obtain⟨n,m,j,b,-⟩:=sh1 w #[zI x.me,zI x.rv,zI x.nx,zI x.mo,zI x.bo,zI x.fr,.slice p len cap] 55;have l:Hid (RowD n p len x.ds):=h.below b.o;obtain⟨c0,c1,c2,t,u,y,z⟩:=scl7 j;have k:Hid (zC 86 #[.slice p len cap] n λe w'=>∃f,e=.returned (zI f)∧deb.FaultIs x.ds f∧w'=n):=deb.rfault p len cap x.ds _ l.o hl;have c:Hid (∀W,zC 47 #[zI x.me,zI 0,zI 49] W λe w'=>e=.returned (.bool (decide (0≤x.me∧x.me≤49)))∧w'=W):=λW=>cal.cin x.me 0 49 W;rw[decide_eq_true h1] at c;have d:Hid (∀W,zC 47 #[zI x.rv,zI 0,zI 15] W λe w'=>e=.returned (.bool (decide (0≤x.rv∧x.rv≤15)))∧w'=W):=λW=>cal.cin x.rv 0 15 W;rw[decide_eq_true h2] at d;have g:Hid (∀W,zC 47 #[zI x.nx,zI 1,zI 1048576] W λe w'=>e=.returned (.bool (decide (1≤x.nx∧x.nx≤1048576)))∧w'=W):=λW=>cal.cin x.nx 1 1048576 W;rw[decide_eq_true h3] at g;have i:Hid (∀W,zC 47 #[zI x.mo,zI 0,zI 2399] W λe w'=>e=.returned (.bool (decide (0≤x.mo∧x.mo≤2399)))∧w'=W):=λW=>cal.cin x.mo 0 2399 W;rw[decide_eq_false h4] at i;have s:Hid (deb.Mays x.ds):=hd;clear h hl hd h1 h2 h3 h4;go_enter Tryz.func44,Tryz.ntmps44;go_upto_region 1 with fail
 rw[m.o];go_wp2_with fail;refine k.o.mono ?_;rintro e A ⟨f,rfl,hf,q⟩;subst q;obtain rfl:f=0:=hf.ok.2 s.o;clear hf;go_wp2_with fail;refine(c.o _).mono ?_;rintro e r ⟨rfl,a⟩;subst a;go_wp2_with fail;refine(d.o _).mono ?_;rintro e r ⟨rfl,a⟩;subst a;go_wp2_with fail;refine(g.o _).mono ?_;rintro e r ⟨rfl,a⟩;subst a;go_wp2_with fail;refine(i.o _).mono ?_;rintro e r ⟨rfl,a⟩;subst a;go_wp2_with fail
 all_goals first
  |(rename_i q1 q2;exact absurd q1 (by simp[undef]))
  |(go_ret;exact⟨rfl,b.o⟩)
theorem amay5(x:Ac)(p:Option Addr)(len cap:Nat)(w:World)(h:RowD w p len x.ds)(hl:len≤maxLen)(hd:deb.Mays x.ds)(h1:0≤x.me∧x.me≤49)(h2:0≤x.rv∧x.rv≤15)(h3:1≤x.nx∧x.nx≤1048576)(h4:0≤x.mo∧x.mo≤2399)(h5:¬ (0≤x.bo∧x.bo≤10000000)):Calls Tryz.prog 44 #[.agg #[zI x.me,zI x.rv,zI x.nx,zI x.mo,zI x.bo,zI x.fr,.slice p len cap]] w λe w'=>e=.returned (.bool false)∧zB w w':=by
 obtain⟨r,q,l,b,-⟩:=sh1 w #[zI x.me,zI x.rv,zI x.nx,zI x.mo,zI x.bo,zI x.fr,.slice p len cap] 55;have n:Hid (RowD r p len x.ds):=h.below b.o;obtain⟨c0,c1,c2,u,y,z,A⟩:=scl7 l;have m:Hid (zC 86 #[.slice p len cap] r λe w'=>∃f,e=.returned (zI f)∧deb.FaultIs x.ds f∧w'=r):=deb.rfault p len cap x.ds _ n.o hl;have c:Hid (∀W,zC 47 #[zI x.me,zI 0,zI 49] W λe w'=>e=.returned (.bool (decide (0≤x.me∧x.me≤49)))∧w'=W):=λW=>cal.cin x.me 0 49 W;rw[decide_eq_true h1] at c;have d:Hid (∀W,zC 47 #[zI x.rv,zI 0,zI 15] W λe w'=>e=.returned (.bool (decide (0≤x.rv∧x.rv≤15)))∧w'=W):=λW=>cal.cin x.rv 0 15 W;rw[decide_eq_true h2] at d;have g:Hid (∀W,zC 47 #[zI x.nx,zI 1,zI 1048576] W λe w'=>e=.returned (.bool (decide (1≤x.nx∧x.nx≤1048576)))∧w'=W):=λW=>cal.cin x.nx 1 1048576 W;rw[decide_eq_true h3] at g;have i:Hid (∀W,zC 47 #[zI x.mo,zI 0,zI 2399] W λe w'=>e=.returned (.bool (decide (0≤x.mo∧x.mo≤2399)))∧w'=W):=λW=>cal.cin x.mo 0 2399 W;rw[decide_eq_true h4] at i;have j:Hid (∀W,zC 47 #[zI x.bo,zI 0,zI 10000000] W λe w'=>e=.returned (.bool (decide (0≤x.bo∧x.bo≤10000000)))∧w'=W):=λW=>cal.cin x.bo 0 10000000 W;rw[decide_eq_false h5] at j;have t:Hid (deb.Mays x.ds):=hd;clear h hl hd h1 h2 h3 h4 h5;go_enter Tryz.func44,Tryz.ntmps44;go_upto_region 1 with fail
 rw[q.o];go_wp2_with fail;refine m.o.mono ?_;rintro e B ⟨f,rfl,hf,s⟩;subst s;obtain rfl:f=0:=hf.ok.2 t.o;clear hf;go_wp2_with fail;refine(c.o _).mono ?_;rintro e k ⟨rfl,a⟩;subst a;go_wp2_with fail;refine(d.o _).mono ?_;rintro e k ⟨rfl,a⟩;subst a;go_wp2_with fail;refine(g.o _).mono ?_;rintro e k ⟨rfl,a⟩;subst a;go_wp2_with fail;refine(i.o _).mono ?_;rintro e k ⟨rfl,a⟩;subst a;go_wp2_with fail;refine(j.o _).mono ?_;rintro e k ⟨rfl,a⟩;subst a;go_wp2_with fail
 all_goals first
  |(rename_i q1 q2;exact absurd q1 (by simp[undef]))
  |(go_ret;exact⟨rfl,b.o⟩)
theorem amay6(x:Ac)(p:Option Addr)(len cap:Nat)(w:World)(h:RowD w p len x.ds)(hl:len≤maxLen)(hd:deb.Mays x.ds)(h1:0≤x.me∧x.me≤49)(h2:0≤x.rv∧x.rv≤15)(h3:1≤x.nx∧x.nx≤1048576)(h4:0≤x.mo∧x.mo≤2399)(h5:0≤x.bo∧x.bo≤10000000)(h6:¬ (-1≤x.fr∧x.fr≤x.mo)):Calls Tryz.prog 44 #[.agg #[zI x.me,zI x.rv,zI x.nx,zI x.mo,zI x.bo,zI x.fr,.slice p len cap]] w λe w'=>e=.returned (.bool false)∧zB w w':=by
 obtain⟨s,r,m,b,-⟩:=sh1 w #[zI x.me,zI x.rv,zI x.nx,zI x.mo,zI x.bo,zI x.fr,.slice p len cap] 55;have q:Hid (RowD s p len x.ds):=h.below b.o;obtain⟨c0,c1,c2,y,z,A,B⟩:=scl7 m;have n:Hid (zC 86 #[.slice p len cap] s λe w'=>∃f,e=.returned (zI f)∧deb.FaultIs x.ds f∧w'=s):=deb.rfault p len cap x.ds _ q.o hl;have c:Hid (∀W,zC 47 #[zI x.me,zI 0,zI 49] W λe w'=>e=.returned (.bool (decide (0≤x.me∧x.me≤49)))∧w'=W):=λW=>cal.cin x.me 0 49 W;rw[decide_eq_true h1] at c;have d:Hid (∀W,zC 47 #[zI x.rv,zI 0,zI 15] W λe w'=>e=.returned (.bool (decide (0≤x.rv∧x.rv≤15)))∧w'=W):=λW=>cal.cin x.rv 0 15 W;rw[decide_eq_true h2] at d;have g:Hid (∀W,zC 47 #[zI x.nx,zI 1,zI 1048576] W λe w'=>e=.returned (.bool (decide (1≤x.nx∧x.nx≤1048576)))∧w'=W):=λW=>cal.cin x.nx 1 1048576 W;rw[decide_eq_true h3] at g;have i:Hid (∀W,zC 47 #[zI x.mo,zI 0,zI 2399] W λe w'=>e=.returned (.bool (decide (0≤x.mo∧x.mo≤2399)))∧w'=W):=λW=>cal.cin x.mo 0 2399 W;rw[decide_eq_true h4] at i;have j:Hid (∀W,zC 47 #[zI x.bo,zI 0,zI 10000000] W λe w'=>e=.returned (.bool (decide (0≤x.bo∧x.bo≤10000000)))∧w'=W):=λW=>cal.cin x.bo 0 10000000 W;rw[decide_eq_true h5] at j;have k:Hid (∀W,zC 47 #[zI x.fr,zI (-1),zI x.mo] W λe w'=>e=.returned (.bool (decide (-1≤x.fr∧x.fr≤x.mo)))∧w'=W):=λW=>cal.cin x.fr (-1) x.mo W;rw[decide_eq_false h6] at k;have u:Hid (deb.Mays x.ds):=hd;clear h hl hd h1 h2 h3 h4 h5 h6;go_enter Tryz.func44,Tryz.ntmps44;go_upto_region 1 with fail
 rw[r.o];go_wp2_with fail;refine n.o.mono ?_;rintro e C ⟨f,rfl,hf,t⟩;subst t;obtain rfl:f=0:=hf.ok.2 u.o;clear hf;go_wp2_with fail;refine(c.o _).mono ?_;rintro e l ⟨rfl,a⟩;subst a;go_wp2_with fail;refine(d.o _).mono ?_;rintro e l ⟨rfl,a⟩;subst a;go_wp2_with fail;refine(g.o _).mono ?_;rintro e l ⟨rfl,a⟩;subst a;go_wp2_with fail;refine(i.o _).mono ?_;rintro e l ⟨rfl,a⟩;subst a;go_wp2_with fail;refine(j.o _).mono ?_;rintro e l ⟨rfl,a⟩;subst a;go_wp2_with fail;refine(k.o _).mono ?_;rintro e l ⟨rfl,a⟩;subst a;go_wp2_with fail
 all_goals first
  |(rename_i q1 q2;exact absurd q1 (by simp[undef]))
  |(go_ret;exact⟨rfl,b.o⟩)
theorem amay7(x:Ac)(p:Option Addr)(len cap:Nat)(w:World)(h:RowD w p len x.ds)(hl:len≤maxLen)(hd:deb.Mays x.ds)(h1:0≤x.me∧x.me≤49)(h2:0≤x.rv∧x.rv≤15)(h3:1≤x.nx∧x.nx≤1048576)(h4:0≤x.mo∧x.mo≤2399)(h5:0≤x.bo∧x.bo≤10000000)(h6:(-1≤x.fr∧x.fr≤x.mo)):Calls Tryz.prog 44 #[.agg #[zI x.me,zI x.rv,zI x.nx,zI x.mo,zI x.bo,zI x.fr,.slice p len cap]] w λe w'=>e=.returned (.bool true)∧zB w w':=by
 obtain⟨s,r,m,b,-⟩:=sh1 w #[zI x.me,zI x.rv,zI x.nx,zI x.mo,zI x.bo,zI x.fr,.slice p len cap] 55;have q:Hid (RowD s p len x.ds):=h.below b.o;obtain⟨c0,c1,c2,y,z,A,B⟩:=scl7 m;have n:Hid (zC 86 #[.slice p len cap] s λe w'=>∃f,e=.returned (zI f)∧deb.FaultIs x.ds f∧w'=s):=deb.rfault p len cap x.ds _ q.o hl;have c:Hid (∀W,zC 47 #[zI x.me,zI 0,zI 49] W λe w'=>e=.returned (.bool (decide (0≤x.me∧x.me≤49)))∧w'=W):=λW=>cal.cin x.me 0 49 W;rw[decide_eq_true h1] at c;have d:Hid (∀W,zC 47 #[zI x.rv,zI 0,zI 15] W λe w'=>e=.returned (.bool (decide (0≤x.rv∧x.rv≤15)))∧w'=W):=λW=>cal.cin x.rv 0 15 W;rw[decide_eq_true h2] at d;have g:Hid (∀W,zC 47 #[zI x.nx,zI 1,zI 1048576] W λe w'=>e=.returned (.bool (decide (1≤x.nx∧x.nx≤1048576)))∧w'=W):=λW=>cal.cin x.nx 1 1048576 W;rw[decide_eq_true h3] at g;have i:Hid (∀W,zC 47 #[zI x.mo,zI 0,zI 2399] W λe w'=>e=.returned (.bool (decide (0≤x.mo∧x.mo≤2399)))∧w'=W):=λW=>cal.cin x.mo 0 2399 W;rw[decide_eq_true h4] at i;have j:Hid (∀W,zC 47 #[zI x.bo,zI 0,zI 10000000] W λe w'=>e=.returned (.bool (decide (0≤x.bo∧x.bo≤10000000)))∧w'=W):=λW=>cal.cin x.bo 0 10000000 W;rw[decide_eq_true h5] at j;have k:Hid (∀W,zC 47 #[zI x.fr,zI (-1),zI x.mo] W λe w'=>e=.returned (.bool (decide (-1≤x.fr∧x.fr≤x.mo)))∧w'=W):=λW=>cal.cin x.fr (-1) x.mo W;rw[decide_eq_true h6] at k;have u:Hid (deb.Mays x.ds):=hd;clear h hl hd h1 h2 h3 h4 h5 h6;go_enter Tryz.func44,Tryz.ntmps44;go_upto_region 1 with fail
 rw[r.o];go_wp2_with fail;refine n.o.mono ?_;rintro e C ⟨f,rfl,hf,t⟩;subst t;obtain rfl:f=0:=hf.ok.2 u.o;clear hf;go_wp2_with fail;refine(c.o _).mono ?_;rintro e l ⟨rfl,a⟩;subst a;go_wp2_with fail;refine(d.o _).mono ?_;rintro e l ⟨rfl,a⟩;subst a;go_wp2_with fail;refine(g.o _).mono ?_;rintro e l ⟨rfl,a⟩;subst a;go_wp2_with fail;refine(i.o _).mono ?_;rintro e l ⟨rfl,a⟩;subst a;go_wp2_with fail;refine(j.o _).mono ?_;rintro e l ⟨rfl,a⟩;subst a;go_wp2_with fail;refine(k.o _).mono ?_;rintro e l ⟨rfl,a⟩;subst a;go_wp2_with fail
 all_goals first
  |(rename_i q1 q2;exact absurd q1 (by simp[undef]))
  |(go_ret;exact⟨rfl,b.o⟩)
theorem ramay(x:Ac)(p:Option Addr)(len cap:Nat)(w:World)(h:RowD w p len x.ds)(hl:len≤maxLen)(hm:AMay x):Calls Tryz.prog 44 #[.agg #[zI x.me,zI x.rv,zI x.nx,zI x.mo,zI x.bo,zI x.fr,.slice p len cap]] w λe w'=>e=.returned (.bool true)∧zB w w':=by
 obtain⟨a,b,c,d,f,g,i⟩:=hm;exact amay7 x p len cap w h hl a b c d f g i
theorem ranot(x:Ac)(p:Option Addr)(len cap:Nat)(w:World)(h:RowD w p len x.ds)(hl:len≤maxLen)(hm:¬ AMay x):Calls Tryz.prog 44 #[.agg #[zI x.me,zI x.rv,zI x.nx,zI x.mo,zI x.bo,zI x.fr,.slice p len cap]] w λe w'=>e=.returned (.bool false)∧zB w w':=by
 by_cases a:deb.Mays x.ds
 ·by_cases b:0≤x.me∧x.me≤49
  ·by_cases c:0≤x.rv∧x.rv≤15
   ·by_cases d:1≤x.nx∧x.nx≤1048576
    ·by_cases f:0≤x.mo∧x.mo≤2399
     ·by_cases g:0≤x.bo∧x.bo≤10000000
      ·by_cases i:-1≤x.fr∧x.fr≤x.mo
       ·exact absurd ⟨a,b,c,d,f,g,i⟩ hm
       ·exact amay6 x p len cap w h hl a b c d f g i
      ·exact amay5 x p len cap w h hl a b c d f g
     ·exact amay4 x p len cap w h hl a b c d f
    ·exact amay3 x p len cap w h hl a b c d
   ·exact amay2 x p len cap w h hl a b c
  ·exact amay1 x p len cap w h hl a b
 ·exact amay0 x p len cap w h hl a
end acc
namespace token
def hasI(lo hi n:Int):Bool:=decide (lo≤n)&&decide (n≤hi)
def amLo(c:Int):Int:=if c=0 then 1 else if c=1 then 0 else if c=2 then 1 else 0
def amHi(c:Int):Int:=if c=0 then 2097151 else if c=1 then 0 else if c=2 then 15 else 0
def flawT(c i a t:Int):Int:=if c<0∨3<c then 9 else if hasI 1 1048575 i&&(hasI (amLo c) (amHi c) a&&hasI 0 65535 t) then 0 else 2
theorem flawT_class{c i a t:Int}(h:c<0∨3<c):flawT c i a t=9:=by unfold flawT;rw[if_pos h]
theorem flawT_in{c i a t:Int}(h:¬ (c<0∨3<c)):flawT c i a t=if hasI 1 1048575 i&&(hasI (amLo c) (amHi c) a&&hasI 0 65535 t) then 0 else 2:=by unfold flawT;rw[if_neg h]
theorem hasI_yes{lo hi n:Int}:hasI lo hi n=true↔lo≤n∧n≤hi:=by simp[hasI]
theorem flaw_tok{k:Tok}:flawT k.c k.i k.a k.t=0↔k.ok:=by
 rw[← okB_ok];unfold flawT okB hasI amLo amHi;rcases (by omega:k.c=0∨k.c=1∨k.c=2∨k.c=3∨4≤k.c) with h|h|h|h|h
 ·simp[h];omega
 ·simp[h];omega
 ·simp[h];omega
 ·simp[h];omega
 ·have b:(3:Int)<(k.c:Int):=by omega
  have d:¬ k.c≤3:=by omega
  simp[b,d]
open Go.RowKit
theorem in_any(n lo hi:Int)(w:World):Calls Tryz.prog 47 #[zI n,zI lo,zI hi] w λe w'=>e=.returned (.bool (hasI lo hi n))∧w'=w:=by
 by_cases h:lo≤n∧n≤hi
 ·rw[hasI_yes.2 h];exact in_yes n lo hi w h.1 h.2
 ·rw[show hasI lo hi n=false by rw[← Bool.not_eq_true];exact λa=>h (hasI_yes.1 a)];exact in_no n lo hi w (by omega)
theorem amt_0(a:Int):hasI (amLo 0) (amHi 0) a=hasI 1 2097151 a:=rfl
theorem amt_2(a:Int):hasI (amLo 2) (amHi 2) a=hasI 1 15 a:=rfl
theorem amt_z(a:Int):hasI 0 0 a=(a==0):=by
 unfold hasI;by_cases h:a=0
 ·subst h;rfl
 ·rw[beq_eq_false_iff_ne.2 h,← Bool.not_eq_true,← hasI];exact λb=>h (by have:=hasI_yes.1 b;omega)
theorem fault_any(c i a t:Int)(w:World):
  Calls Tryz.prog 52 #[.agg #[zI c,zI i,zI a,zI t]] w λe w'=>e=.returned (zI (flawT c i a t))∧zB w w':=by
 have g:Hid (zB w (w.alloc (.cells #[zI c,zI i,zI a,zI t] 73))):=zb.alloc zc _;have d:Hid (∀W,zC 47 #[zI c,zI 0,zI 3] W λe w'=>e=.returned (.bool (hasI 0 3 c))∧w'=W):=λW=>in_any _ _ _ W;have k:Hid (∀W,zC 47 #[zI i,zI 1,zI 1048575] W λe w'=>e=.returned (.bool (hasI 1 1048575 i))∧w'=W):=λW=>in_any _ _ _ W;have l:Hid (∀W,zC 47 #[zI t,zI 0,zI 65535] W λe w'=>e=.returned (.bool (hasI 0 65535 t))∧w'=W):=λW=>in_any _ _ _ W;have p:Hid (∀W,zC 47 #[zI a,zI 1,zI 2097151] W λe w'=>e=.returned (.bool (hasI 1 2097151 a))∧w'=W):=λW=>in_any _ _ _ W;have q:Hid (∀W,zC 47 #[zI a,zI 1,zI 15] W λe w'=>e=.returned (.bool (hasI 1 15 a))∧w'=W):=λW=>in_any _ _ _ W;by_cases h:c<0∨3<c
 ·rw[flawT_class h];have b:hasI 0 3 c=false:=by rw[← Bool.not_eq_true];exact λr=>by have:=hasI_yes.1 r;omega
  rw[b] at d;clear h b;go_enter Tryz.func52,Tryz.ntmps52;go_wp2_with (go_at_call 47;refine(d.o _).mono ?_;rintro e w' ⟨rfl,rfl⟩)
  go_ret;exact⟨rfl,g.o⟩
 ·have b:hasI 0 3 c=true:=hasI_yes.2 (by omega);rw[b] at d;rw[flawT_in h];have s:Hid ((a==0)=hasI 0 0 a):=(amt_z a).symm;have j:(a != 0)=!(hasI 0 0 a):=by rw[amt_z];rfl
  generalize hasI 1 1048575 i=m at *;generalize hasI 0 65535 t=n at *;rcases (by omega:c=0∨c=1∨c=2∨c=3) with rfl|rfl|rfl|rfl
  ·rw[amt_0];clear j h b;generalize hasI 1 2097151 a=f at *;cases m<;>cases n<;>cases f
   all_goals
    go_enter Tryz.func52,Tryz.ntmps52
    go_wp2_with (first
     |(go_at_call_of 47 (Value.int .i64 3);refine(d.o _).mono ?_;rintro e w' ⟨rfl,rfl⟩)
     |(go_at_call_of 47 (Value.int .i64 1048575);refine(k.o _).mono ?_;rintro e w' ⟨rfl,rfl⟩)
     |(go_at_call_of 47 (Value.int .i64 65535);refine(l.o _).mono ?_;rintro e w' ⟨rfl,rfl⟩)
     | (go_at_call_of 47 (Value.int .i64 2097151);refine (p.o _).mono ?_;rintro e w' ⟨rfl,rfl⟩))
    go_ret;exact⟨rfl,g.o⟩
  ·rw[show hasI (amLo 1) (amHi 1) a=hasI 0 0 a from rfl];clear h b;generalize hasI 0 0 a=f at *;cases m<;>cases n<;>cases f
   all_goals
    go_enter Tryz.func52,Tryz.ntmps52
    go_wp2_with (first
     |(go_at_call_of 47 (Value.int .i64 3);refine(d.o _).mono ?_;rintro e w' ⟨rfl,rfl⟩)
     |(go_at_call_of 47 (Value.int .i64 1048575);refine(k.o _).mono ?_;rintro e w' ⟨rfl,rfl⟩)
     | (go_at_call_of 47 (Value.int .i64 65535);refine (l.o _).mono ?_;rintro e w' ⟨rfl,rfl⟩))
    go_ret;exact⟨rfl,g.o⟩
  ·rw[amt_2];clear j h b;generalize hasI 1 15 a=f at *;cases m<;>cases n<;>cases f
   all_goals
    go_enter Tryz.func52,Tryz.ntmps52
    go_wp2_with (first
     |(go_at_call_of 47 (Value.int .i64 3);refine(d.o _).mono ?_;rintro e w' ⟨rfl,rfl⟩)
     |(go_at_call_of 47 (Value.int .i64 1048575);refine(k.o _).mono ?_;rintro e w' ⟨rfl,rfl⟩)
     |(go_at_call_of 47 (Value.int .i64 65535);refine(l.o _).mono ?_;rintro e w' ⟨rfl,rfl⟩)
     | (go_at_call_of 47 (Value.int .i64 15);refine (q.o _).mono ?_;rintro e w' ⟨rfl,rfl⟩))
    go_ret;exact⟨rfl,g.o⟩
  ·rw[show hasI (amLo 3) (amHi 3) a=hasI 0 0 a from rfl];clear h b;generalize hasI 0 0 a=f at *;cases m<;>cases n<;>cases f
   all_goals
    go_enter Tryz.func52,Tryz.ntmps52
    go_wp2_with (first
     |(go_at_call_of 47 (Value.int .i64 3);refine(d.o _).mono ?_;rintro e w' ⟨rfl,rfl⟩)
     |(go_at_call_of 47 (Value.int .i64 1048575);refine(k.o _).mono ?_;rintro e w' ⟨rfl,rfl⟩)
     | (go_at_call_of 47 (Value.int .i64 65535);refine (l.o _).mono ?_;rintro e w' ⟨rfl,rfl⟩))
    go_ret;exact⟨rfl,g.o⟩
theorem Eight.cell{w:World}{g:Nat}{a0 a1 a2 a3 a4 a5 a6 a7:Int}(h:Eight w g a0 a1 a2 a3 a4 a5 a6 a7):
  w.cell? ⟨g,0,none⟩=some (zI a0)∧w.cell? ⟨g,1,none⟩=some (zI a1)∧w.cell? ⟨g,2,none⟩=some (zI a2)∧w.cell? ⟨g,3,none⟩=some (zI a3) ∧
  w.cell? ⟨g,4,none⟩=some (zI a4)∧w.cell? ⟨g,5,none⟩=some (zI a5)∧w.cell? ⟨g,6,none⟩=some (zI a6)∧w.cell? ⟨g,7,none⟩=some (zI a7):=by
 obtain⟨t,a,h⟩:=h;simp[World.cell?,h]
theorem has_any(lo hi n:Int)(w:World):
  Calls Tryz.prog 156 #[.agg #[zI lo,zI hi],zI n] w λe w'=>e=.returned (.bool (hasI lo hi n))∧zB w w':=by
 have a:zB w (w.alloc (.cells #[zI lo,zI hi] 238)):=zb.alloc zc _;by_cases h:lo≤n
 ·have e:hasI lo hi n=decide (n≤hi):=by simp[hasI,h]
  rw[e];go_enter Tryz.func156,Tryz.ntmps156;go_wp2;go_ret;exact⟨rfl,a⟩
 ·have e:hasI lo hi n=false:=by simp[hasI,h]
  have b:n<lo:=by omega
  rw[e];go_enter Tryz.func156,Tryz.ntmps156;go_wp2;go_ret;exact⟨rfl,a⟩
end token
namespace words
theorem ofInt_nat(k a:Nat)(h:a<2^k):(BitVec.ofInt k (a:Int)).toNat=a:=by
 rw[BitVec.ofInt_natCast,BitVec.toNat_ofNat];exact Nat.mod_eq_of_lt h
theorem wrap_u32(n:Int):IntKind.u32.wrap n=n%4294967296:=by simp[IntKind.wrap,IntKind.bits,IntKind.signed]
theorem or64(a b:Nat)(ha:a<2^64)(hb:b<2^64):bits .or .u64 (a:Int) (b:Int)=((a ||| b:Nat):Int):=by
 have h:=Nat.or_lt_two_pow ha hb;show IntKind.u64.wrap ((BitVec.ofInt 64 (a:Int) ||| BitVec.ofInt 64 (b:Int)).toNat:Int)=_;rw[BitVec.toNat_or,ofInt_nat 64 a ha,ofInt_nat 64 b hb,IntKind.wrap_u64];omega
theorem and64(a b:Nat)(ha:a<2^64)(hb:b<2^64):bits .and .u64 (a:Int) (b:Int)=((a &&& b:Nat):Int):=by
 have h:a &&& b<2^64:=Nat.and_lt_two_pow a hb;show IntKind.u64.wrap ((BitVec.ofInt 64 (a:Int) &&& BitVec.ofInt 64 (b:Int)).toNat:Int)=_;rw[BitVec.toNat_and,ofInt_nat 64 a ha,ofInt_nat 64 b hb,IntKind.wrap_u64];omega
theorem or32(a b:Nat)(ha:a<2^32)(hb:b<2^32):bits .or .u32 (a:Int) (b:Int)=((a ||| b:Nat):Int):=by
 have h:=Nat.or_lt_two_pow ha hb;show IntKind.u32.wrap ((BitVec.ofInt 32 (a:Int) ||| BitVec.ofInt 32 (b:Int)).toNat:Int)=_;rw[BitVec.toNat_or,ofInt_nat 32 a ha,ofInt_nat 32 b hb,wrap_u32];omega
theorem andNot32(a b:Nat)(ha:a<2^32)(hb:b<2^32):bits .andNot .u32 (a:Int) (b:Int)=((a &&& (2^32-1-b):Nat):Int):=by
 have h:a &&& (2^32-1-b)<2^32:=Nat.and_lt_two_pow a (by omega);show IntKind.u32.wrap ((BitVec.ofInt 32 (a:Int) &&& ~~~ BitVec.ofInt 32 (b:Int)).toNat:Int)=_;rw[BitVec.toNat_and,BitVec.toNat_not,ofInt_nat 32 a ha,ofInt_nat 32 b hb,wrap_u32];omega
theorem or_words(n x:Int)(n0:0≤n)(n1:n<4294967296)(x0:0≤x)(x1:x<4294967296):bits .or .u64 (n*4294967296) x=n*4294967296+x:=by
 obtain⟨p,rfl⟩:=Int.eq_ofNat_of_zero_le n0;obtain⟨q,rfl⟩:=Int.eq_ofNat_of_zero_le x0;have e:((p:Int)*4294967296)=((p*4294967296:Nat):Int):=by simp
 rw[e,or64 _ _ (by omega) (by omega)];have h:=Nat.shiftLeft_add_eq_or_of_lt (show q<2^32 by omega) p;rw[Nat.shiftLeft_eq] at h;have a:p*4294967296 ||| q=p*4294967296+q:=h.symm
 rw[a];simp
end words
namespace ora
open Go.RowKit
def Given(w:World)(l:List Pr)(e:Ending)(w':World):Prop:=
 zB w w'∧((May l∧∃B,e=.returned (.tuple #[.map (some B),.bool true])∧Mp w' B l)∨(¬ May l∧e=.returned (.tuple #[.map none,.bool false])))
def Seen(l:List Pr)(k:Nat):Prop:=∀i,i<k→(l.getD i pr0).may∧At l (l.getD i pr0).m (l.getD i pr0).r (l.getD i pr0).b i
structure Bg (w wr:World) (B:Nat) (a:Option Addr) (n cap:Nat) (l:List Pr) (k:Nat):Prop where
 bo:Bo w wr a n cap l
 mp:Mp wr B (l.take k)
 hB:w.heap.size≤B
variable{l:List Pr}{a:Option Addr}{n cap:Nat}{k:Nat}{B:Nat}
theorem Bg.next{w wr w':World}(h:Bg w wr B a n cap l k)(hb:zB wr w'):Bg w w' B a n cap l k:=⟨h.bo.next hb,h.mp.below hb,h.hB⟩
theorem Bg.alloc{w wr:World}(h:Bg w wr B a n cap l k)(o:Obj):Bg w (wr.alloc o) B a n cap l k:=h.next (zb.alloc zc _)
theorem Bg.drew{w wr:World}(h:Bg w wr B a n cap l k)(q:Nat):Bg w (wr.drewN q) B a n cap l k:=h.next (bel_drew zb q)
theorem rowP_oth{w W:World}{n:Nat}{l':List Pr}(h:RowP w a n l)(hM:Mp w B l')(ho:∀G,G≠B→W.heap[G]?=w.heap[G]?):RowP W a n l:=by
 refine⟨h.1,?_⟩;rcases h.2 with f|⟨b,c,rfl,p⟩
 ·exact .inl f
 ·refine .inr ⟨b,c,rfl,λi q=>?_⟩;obtain⟨d,g,j,k⟩:=p i q
  have m:b≠B:=by
   rintro rfl;unfold Mp at hM;simp[World.cell?,hM] at d
  have e:∀o,W.cell? ⟨b,o,none⟩=w.cell? ⟨b,o,none⟩:=λo=>by simp only[World.cell?,ho b m]
  exact⟨(e _).trans d,(e _).trans g,(e _).trans j,(e _).trans k⟩
theorem blk_oth{w W:World}{G B:Nat}{cs:Array Value}{t:TypeId}{l':List Pr}(h:Blk w G cs t)(hM:Mp w B l')(ho:∀G,G≠B→W.heap[G]?=w.heap[G]?):Blk W G cs t:=by
 have a:G≠B:=by
  rintro rfl;unfold Mp at hM;unfold Blk at h;rw[h] at hM;cases hM
 unfold Blk at *;rw[ho G a];exact h
theorem Bg.put{w wr W:World}(h:Bg w wr B a n cap l k)(hk:k<l.length)(hM:Mp W B (l.take k++[⟨(l.getD k pr0).m,(l.getD k pr0).r,(l.getD k pr0).b,(l.getD k pr0).t⟩]))
  (ho:∀G,G≠B→W.heap[G]?=wr.heap[G]?) (hb:∀B0 w0,B0≤B→Below B0 w0 wr→Below B0 w0 W):Bg w W B a n cap l (k+1):=
 ⟨⟨blk_oth h.bo.box h.mp ho,rowP_oth h.bo.row h.mp ho,hb _ _ h.hB h.bo.bel⟩,by rw[take_nextP l k hk] at hM;exact hM,h.hB⟩
theorem seen_no(hk:k<l.length)(hm:May l):look (l.take k) (l.getD k pr0).m (l.getD k pr0).r (l.getD k pr0).b=none:=(look_take (by omega)).2 (hm.each k hk).2.first
theorem seen_yes(hk:k<l.length)(hs:Seen l k)(hl:look (l.take k) (l.getD k pr0).m (l.getD k pr0).r (l.getD k pr0).b=none)(hp:(Pr.mk (l.getD k pr0).m (l.getD k pr0).r (l.getD k pr0).b (l.getD k pr0).t).may):Seen l (k+1):=λi a=>by
 by_cases e:i=k
 ·subst e;exact⟨hp,hk,⟨rfl,rfl,rfl⟩,(look_take (by omega)).1 hl⟩
 ·exact hs i (by omega)
theorem given_any(a:Option Addr)(n cap:Nat)(l:List Pr)(w:World)(hr:RowP w a n l):
  Calls Tryz.prog 114 #[.agg #[.slice a n cap]] w λe w'=>Given w l e w':=by
 have I:Hid (Bo w (w.alloc (.cells #[.slice a n cap] 28)) a n cap l):=Bo.new hr;have Y:=zh hr.1;clear hr;have c0:=I.o.box.cell 0;by_cases hn:n≤500
 ·have H:decide ((500:Int)<(n:Int))=false:=by simp;omega
  obtain⟨B,hBe⟩:∃B,B=w.heap.size+1:=⟨_,rfl⟩
  have ae:∀z:Int,(Instr.makeMap 178 (some (zI z))).run Tryz.prog (w.alloc (.cells #[.slice a n cap] 28))=.ok (.map (some B)) ((w.alloc (.cells #[.slice a n cap] 28)).alloc (.map #[] 0)):=λz=>by rw[run_mkMap,hBe];simp
  have T:Hid (Bg w ((w.alloc (.cells #[.slice a n cap] 28)).alloc (.map #[] 0)) B a n cap l 0):=⟨I.o.alloc _,by
   have:=Mp.new (w.alloc (.cells #[.slice a n cap] 28));rw[show (w.alloc (.cells #[.slice a n cap] 28)).heap.size=B by rw[hBe];simp] at this
   rw [List.take_zero];exact this,by omega⟩
  have d0:=T.o.bo.box.cell 0;clear hBe;have ac:Hid (∀W m r b t,zC 115 #[.agg #[zI m,zI r,zI b,zI t]] W λe w'=>Told W (Pr.mk m r b t).may e w'):=λW m r b t=>within_any m r b t W;have a1:Hid (∀W m r b t,zC 116 #[.agg #[zI m,zI r,zI b,zI t]] W λe w'=>e=.returned (.agg #[zI m,zI r,zI b])∧zB W w'):=λW m r b t=>of_any m r b t W;go_enter Tryz.func114,Tryz.ntmps114;go_wp2_with fail;clear c0 d0 ae H;generalize (w.alloc (.cells #[.slice a n cap] 28)).alloc (.map #[] 0)=W0 at *;go_loopw [20] (λj wr=>∃k:Nat,k≤n∧j=zI (k:Int)∧Hid (Seen l k)∧Bg w wr B a n cap l k) (λj _=>n-(intOf j).toNat)
  case atStart=>exact⟨0,Nat.zero_le _,rfl,λi hi=>absurd hi (Nat.not_lt_zero _),T.o⟩
  case round=>
   obtain⟨k,hk,rfl,HA,a4⟩:=hrel;have U:=zh a4;clear a4;by_cases P:k<n
   ·obtain⟨L,f,rfl,_,hc⟩:=U.o.bo.row.at (by omega);obtain⟨f0,f1,f2,f3⟩:=hc k P;have y:k<l.length:=by rw[Y.o];exact P
    have aa:Hid (look (l.take k) (l.getD k pr0).m (l.getD k pr0).r (l.getD k pr0).b≠none→¬ May l):=λh hm=>h (seen_no y hm);have a9:Hid (May l→(Pr.mk (l.getD k pr0).m (l.getD k pr0).r (l.getD k pr0).b (l.getD k pr0).t).may):=λhm=>(hm.each k y).1;have ab:Hid (look (l.take k) (l.getD k pr0).m (l.getD k pr0).r (l.getD k pr0).b=none→(Pr.mk (l.getD k pr0).m (l.getD k pr0).r (l.getD k pr0).b (l.getD k pr0).t).may→Seen l (k+1)):=λh1 h2=>seen_yes y HA.o h1 h2;have a2:Hid (∀v W,Bg w v B (some ⟨L,f,none⟩) n cap l k→Mp W B (l.take k++[⟨(l.getD k pr0).m,(l.getD k pr0).r,(l.getD k pr0).b,(l.getD k pr0).t⟩])→(∀G,G≠B→W.heap[G]?=v.heap[G]?)→(∀B0 w0,B0≤B→Below B0 w0 v→Below B0 w0 W)→Bg w W B (some ⟨L,f,none⟩) n cap l (k+1)):=λv W h1 h2 h3 h4=>h1.put y h2 h3 h4;clear hc y;generalize (l.getD k pr0).m=p at *;generalize (l.getD k pr0).r=c at *;generalize (l.getD k pr0).b=g at *;generalize (l.getD k pr0).t=E at *;have S:=Blk.new wr #[zI p,zI c,zI g,zI E] 87;have n0:=S.cell 0;have n1:=S.cell 1;have n2:=S.cell 2;have n3:=S.cell 3;have a0:=zh S;have V:Hid (Bg w (wr.alloc (.cells #[zI p,zI c,zI g,zI E] 87)) B (some ⟨L,f,none⟩) n cap l k):=U.o.alloc _;clear S U;go_wp2_with fail;refine(a1.o _ _ _ _ _).mono ?_;rintro e w2 ⟨rfl,M⟩;have C:Hid (Bg w w2 B (some ⟨L,f,none⟩) n cap l k):=V.o.next M;have F:=shN a0 M;have m0:=F.o.cell 0;have m1:=F.o.cell 1;have m2:=F.o.cell 2;have m3:=F.o.cell 3;have A:=look_run C.o.mp p c g;clear a0 M n0 n1 n2 n3 V f0 f1 f2 f3;generalize wr.heap.size=d at *;cases hlo:look (l.take k) p c g with
    |some x=>
     rw[hlo] at A;simp only[Option.getD_some,Option.isSome_some] at A;have J:Hid (¬ May l):=aa.o (by rw[hlo];exact λh=>by cases h);clear hlo;go_wp2_with fail;go_ret2;exact⟨C.o.bo.bel,.inr ⟨J.o,rfl⟩⟩
    |none=>
     rw[hlo] at A;simp only[Option.getD_none,Option.isSome_none] at A;have Z:Hid (look (l.take k) p c g=none):=hlo;clear hlo;go_wp2_with fail;refine(ac.o _ _ _ _ _).mono ?_;rintro e R ⟨rr,rfl,D,N⟩;have X:Hid (Bg w R B (some ⟨L,f,none⟩) n cap l k):=C.o.next N;have q:=shN F N;clear A m0 m1 m2 m3 F C N;cases rr with
     |false=>
      have J:Hid (¬ May l):=λhm=>by have:=D.2 (a9.o hm);cases this
      clear D;go_wp2_with fail;go_ret2;exact⟨X.o.bo.bel,.inr ⟨J.o,rfl⟩⟩
     |true=>
      have ad:Hid ((Pr.mk p c g E).may):=D.1 rfl;clear D;have K3:Hid (R.drew.cell? ⟨d,0,none⟩=some (zI p)∧R.drew.cell? ⟨d,0+1,none⟩=some (zI c)∧R.drew.cell? ⟨d,0+2,none⟩=some (zI g)∧R.drew.cell? ⟨d,0+3,none⟩=some (zI E)):=⟨q.o.cell 0,q.o.cell 1,q.o.cell 2,q.o.cell 3⟩
      have a6:Hid (Bg w R.drew B (some ⟨L,f,none⟩) n cap l k):=X.o.drew 1;have a8:Hid (Blk R.drew d #[zI p,zI c,zI g,zI E] 87):=q.o;go_wp2_with fail
      go_region_held_law (λv=>v.cell? ⟨d,0,none⟩=some (zI p)∧v.cell? ⟨d,0+1,none⟩=some (zI c)∧v.cell? ⟨d,0+2,none⟩=some (zI g)∧v.cell? ⟨d,0+3,none⟩=some (zI E))
       (first|with_reducible exact K3.o|with_reducible exact K4.o|with_reducible exact K5.o)
       (first
        | (go_at_call 116;refine (a1.o _ _ _ _ _).mono ?_;rintro e w4 ⟨rfl,O⟩
           have K:=zh (a6.o.next O);have s:=shN a8 O;have K4:Hid (w4.cell? ⟨d,0,none⟩=some (zI p)∧w4.cell? ⟨d,0+1,none⟩=some (zI c)∧w4.cell? ⟨d,0+2,none⟩=some (zI g)∧w4.cell? ⟨d,0+3,none⟩=some (zI E)):=⟨s.o.cell 0,s.o.cell 1,s.o.cell 2,s.o.cell 3⟩
           obtain⟨W5,ah,a5,Q,a3,af⟩:=upd_run K.o.mp p c g E Z.o;have a7:Hid (Bg w W5 B (some ⟨L,f,none⟩) n cap l (k+1)):=a2.o _ _ K.o a5 Q a3;have u:=blk_oth s.o K.o.mp Q;have K5:Hid (W5.cell? ⟨d,0,none⟩=some (zI p)∧W5.cell? ⟨d,0+1,none⟩=some (zI c)∧W5.cell? ⟨d,0+2,none⟩=some (zI g)∧W5.cell? ⟨d,0+3,none⟩=some (zI E)):=⟨u.cell 0,u.cell 1,u.cell 2,u.cell 3⟩
           clear a5 Q a3 af u O))
      all_goals go_wp2_with fail
      all_goals go_roundw
      case rel=>exact⟨k+1,by omega,by go_num,ab.o Z.o ad.o,a7.o⟩
      case measure=>simp[intOf];omega
   ·obtain rfl:k=n:=by omega
    have ag:decide ((k:Int)<(k:Int))=false:=by simp
    have J:Hid (May l):=⟨by rw[Y.o];exact hn,λi hi=>HA.o i (by rw[← Y.o];exact hi)⟩
    have F:Hid (Mp wr B l):=by have:=U.o.mp;rw[List.take_of_length_le (by rw[Y.o];exact zc)] at this;exact this
    clear P;go_wp2_with fail;go_ret2;exact⟨U.o.bo.bel,.inl ⟨J.o,B,rfl,F.o⟩⟩
 ·have H:decide ((500:Int)<(n:Int))=true:=by simp;omega
  have J:Hid (¬ May l):=λh=>by have:=h.few;rw[Y.o] at this;omega
  clear hn;go_enter Tryz.func114,Tryz.ntmps114;go_wp2_with fail;go_ret2;exact⟨I.o.bel,.inr ⟨J.o,rfl⟩⟩
end ora
end Go.Proofs.YtoepgdhiepedeaaGreatDoor
