import Derived.Test.YtoepgdhiepedeaaGreatDoorVVSls8
import Derived.Test.YtoepgdhiepedeaaGreatDoorVVSls9
set_option linter.unusedVariables false
set_option linter.unusedSimpArgs false
set_option maxHeartbeats 4000000
set_option maxRecDepth 100000
namespace Go.Proofs.YtoepgdhiepedeaaGreatDoor
namespace acc
open tar (Du du0 Came RowD Ld PairT)
open Go.RowKit
theorem amay0(x:Ac)(p:Option Addr)(len cap:Nat)(w:World)(h:RowD w p len x.ds)(hl:len≤maxLen)(hd:¬ deb.Mays x.ds):Calls Tryz.prog 44 #[.agg #[zI x.me,zI x.rv,zI x.nx,zI x.mo,zI x.bo,zI x.fr,.slice p len cap]] w λe w'=>e=.returned (.bool false)∧zB w w':=by
 obtain⟨i,g,b,a,-⟩:=sh1 w #[zI x.me,zI x.rv,zI x.nx,zI x.mo,zI x.bo,zI x.fr,.slice p len cap] 55;have d:Hid (RowD i p len x.ds):=h.below a.o;obtain⟨c0,c1,c2,m,n,q,r⟩:=scl7 b;have c:Hid (zC 86 #[.slice p len cap] i λe w'=>∃f,e=.returned (zI f)∧deb.FaultIs x.ds f∧w'=i):=deb.rfault p len cap x.ds _ d.o hl;have k:Hid (¬ deb.Mays x.ds):=hd;clear h hl hd;go_enter Tryz.func44,Tryz.ntmps44;go_upto_region 1 with fail
 rw[g.o];go_wp2_with fail;refine c.o.mono ?_;rintro e s ⟨f,rfl,hf,j⟩;subst j;have l:(f != 0)=true:=by simpa using λe=>k.o (hf.ok.1 e)
 clear hf;go_wp2_with fail
 all_goals first
  |(rename_i q1 q2;exact absurd q1 (by simp[undef]))
  |(go_ret;exact⟨rfl,a.o⟩)
theorem amay1(x:Ac)(p:Option Addr)(len cap:Nat)(w:World)(h:RowD w p len x.ds)(hl:len≤maxLen)(hd:deb.Mays x.ds)(h1:¬ (0≤x.me∧x.me≤49)):Calls Tryz.prog 44 #[.agg #[zI x.me,zI x.rv,zI x.nx,zI x.mo,zI x.bo,zI x.fr,.slice p len cap]] w λe w'=>e=.returned (.bool false)∧zB w w':=by
 obtain⟨j,i,c,a,-⟩:=sh1 w #[zI x.me,zI x.rv,zI x.nx,zI x.mo,zI x.bo,zI x.fr,.slice p len cap] 55;have g:Hid (RowD j p len x.ds):=h.below a.o;obtain⟨c0,c1,c2,n,q,r,s⟩:=scl7 c;have d:Hid (zC 86 #[.slice p len cap] j λe w'=>∃f,e=.returned (zI f)∧deb.FaultIs x.ds f∧w'=j):=deb.rfault p len cap x.ds _ g.o hl;have b:Hid (∀W,zC 47 #[zI x.me,zI 0,zI 49] W λe w'=>e=.returned (.bool (decide (0≤x.me∧x.me≤49)))∧w'=W):=λW=>cal.cin x.me 0 49 W;rw[decide_eq_false h1] at b;have m:Hid (deb.Mays x.ds):=hd;clear h hl hd h1;go_enter Tryz.func44,Tryz.ntmps44;go_upto_region 1 with fail
 rw[i.o];go_wp2_with fail;refine d.o.mono ?_;rintro e t ⟨f,rfl,hf,k⟩;subst k;obtain rfl:f=0:=hf.ok.2 m.o;clear hf;go_wp2_with fail;refine(b.o _).mono ?_;rintro e u ⟨rfl,l⟩;subst l;go_wp2_with fail
 all_goals first
  |(rename_i q1 q2;exact absurd q1 (by simp[undef]))
  |(go_ret;exact⟨rfl,a.o⟩)
theorem amay2(x:Ac)(p:Option Addr)(len cap:Nat)(w:World)(h:RowD w p len x.ds)(hl:len≤maxLen)(hd:deb.Mays x.ds)(h1:0≤x.me∧x.me≤49)(h2:¬ (0≤x.rv∧x.rv≤15)):Calls Tryz.prog 44 #[.agg #[zI x.me,zI x.rv,zI x.nx,zI x.mo,zI x.bo,zI x.fr,.slice p len cap]] w λe w'=>e=.returned (.bool false)∧zB w w':=by
 obtain⟨l,k,g,b,-⟩:=sh1 w #[zI x.me,zI x.rv,zI x.nx,zI x.mo,zI x.bo,zI x.fr,.slice p len cap] 55;have j:Hid (RowD l p len x.ds):=h.below b.o;obtain⟨c0,c1,c2,r,s,t,u⟩:=scl7 g;have i:Hid (zC 86 #[.slice p len cap] l λe w'=>∃f,e=.returned (zI f)∧deb.FaultIs x.ds f∧w'=l):=deb.rfault p len cap x.ds _ j.o hl;have c:Hid (∀W,zC 47 #[zI x.me,zI 0,zI 49] W λe w'=>e=.returned (.bool (decide (0≤x.me∧x.me≤49)))∧w'=W):=λW=>cal.cin x.me 0 49 W;rw[decide_eq_true h1] at c;have d:Hid (∀W,zC 47 #[zI x.rv,zI 0,zI 15] W λe w'=>e=.returned (.bool (decide (0≤x.rv∧x.rv≤15)))∧w'=W):=λW=>cal.cin x.rv 0 15 W;rw[decide_eq_false h2] at d;have n:Hid (deb.Mays x.ds):=hd;clear h hl hd h1 h2;go_enter Tryz.func44,Tryz.ntmps44;go_upto_region 1 with fail
 rw[k.o];go_wp2_with fail;refine i.o.mono ?_;rintro e y ⟨f,rfl,hf,m⟩;subst m;obtain rfl:f=0:=hf.ok.2 n.o;clear hf;go_wp2_with fail;refine(c.o _).mono ?_;rintro e q ⟨rfl,a⟩;subst a;go_wp2_with fail;refine(d.o _).mono ?_;rintro e q ⟨rfl,a⟩;subst a;go_wp2_with fail
 all_goals first
  |(rename_i q1 q2;exact absurd q1 (by simp[undef]))
  |(go_ret;exact⟨rfl,b.o⟩)
theorem amay3(x:Ac)(p:Option Addr)(len cap:Nat)(w:World)(h:RowD w p len x.ds)(hl:len≤maxLen)(hd:deb.Mays x.ds)(h1:0≤x.me∧x.me≤49)(h2:0≤x.rv∧x.rv≤15)(h3:¬ (1≤x.nx∧x.nx≤1048576)):Calls Tryz.prog 44 #[.agg #[zI x.me,zI x.rv,zI x.nx,zI x.mo,zI x.bo,zI x.fr,.slice p len cap]] w λe w'=>e=.returned (.bool false)∧zB w w':=by
 obtain⟨m,l,i,b,-⟩:=sh1 w #[zI x.me,zI x.rv,zI x.nx,zI x.mo,zI x.bo,zI x.fr,.slice p len cap] 55;have k:Hid (RowD m p len x.ds):=h.below b.o;obtain⟨c0,c1,c2,s,t,u,y⟩:=scl7 i;have j:Hid (zC 86 #[.slice p len cap] m λe w'=>∃f,e=.returned (zI f)∧deb.FaultIs x.ds f∧w'=m):=deb.rfault p len cap x.ds _ k.o hl;have c:Hid (∀W,zC 47 #[zI x.me,zI 0,zI 49] W λe w'=>e=.returned (.bool (decide (0≤x.me∧x.me≤49)))∧w'=W):=λW=>cal.cin x.me 0 49 W;rw[decide_eq_true h1] at c;have d:Hid (∀W,zC 47 #[zI x.rv,zI 0,zI 15] W λe w'=>e=.returned (.bool (decide (0≤x.rv∧x.rv≤15)))∧w'=W):=λW=>cal.cin x.rv 0 15 W;rw[decide_eq_true h2] at d;have g:Hid (∀W,zC 47 #[zI x.nx,zI 1,zI 1048576] W λe w'=>e=.returned (.bool (decide (1≤x.nx∧x.nx≤1048576)))∧w'=W):=λW=>cal.cin x.nx 1 1048576 W;rw[decide_eq_false h3] at g;have r:Hid (deb.Mays x.ds):=hd;clear h hl hd h1 h2 h3;go_enter Tryz.func44,Tryz.ntmps44;go_upto_region 1 with fail
 rw[l.o];go_wp2_with fail;refine j.o.mono ?_;rintro e z ⟨f,rfl,hf,n⟩;subst n;obtain rfl:f=0:=hf.ok.2 r.o;clear hf;go_wp2_with fail;refine(c.o _).mono ?_;rintro e q ⟨rfl,a⟩;subst a;go_wp2_with fail;refine(d.o _).mono ?_;rintro e q ⟨rfl,a⟩;subst a;go_wp2_with fail;refine(g.o _).mono ?_;rintro e q ⟨rfl,a⟩;subst a;go_wp2_with fail
 all_goals first
  |(rename_i q1 q2;exact absurd q1 (by simp[undef]))
  |(go_ret;exact⟨rfl,b.o⟩)
theorem amay4(x:Ac)(p:Option Addr)(len cap:Nat)(w:World)(h:RowD w p len x.ds)(hl:len≤maxLen)(hd:deb.Mays x.ds)(h1:0≤x.me∧x.me≤49)(h2:0≤x.rv∧x.rv≤15)(h3:1≤x.nx∧x.nx≤1048576)(h4:¬ (0≤x.mo∧x.mo≤2399)):Calls Tryz.prog 44 #[.agg #[zI x.me,zI x.rv,zI x.nx,zI x.mo,zI x.bo,zI x.fr,.slice p len cap]] w λe w'=>e=.returned (.bool false)∧zB w w':=by
 obtain⟨n,m,j,b,-⟩:=sh1 w #[zI x.me,zI x.rv,zI x.nx,zI x.mo,zI x.bo,zI x.fr,.slice p len cap] 55;have l:Hid (RowD n p len x.ds):=h.below b.o;obtain⟨c0,c1,c2,t,u,y,z⟩:=scl7 j;have k:Hid (zC 86 #[.slice p len cap] n λe w'=>∃f,e=.returned (zI f)∧deb.FaultIs x.ds f∧w'=n):=deb.rfault p len cap x.ds _ l.o hl;have c:Hid (∀W,zC 47 #[zI x.me,zI 0,zI 49] W λe w'=>e=.returned (.bool (decide (0≤x.me∧x.me≤49)))∧w'=W):=λW=>cal.cin x.me 0 49 W;rw[decide_eq_true h1] at c;have d:Hid (∀W,zC 47 #[zI x.rv,zI 0,zI 15] W λe w'=>e=.returned (.bool (decide (0≤x.rv∧x.rv≤15)))∧w'=W):=λW=>cal.cin x.rv 0 15 W;rw[decide_eq_true h2] at d;have g:Hid (∀W,zC 47 #[zI x.nx,zI 1,zI 1048576] W λe w'=>e=.returned (.bool (decide (1≤x.nx∧x.nx≤1048576)))∧w'=W):=λW=>cal.cin x.nx 1 1048576 W;rw[decide_eq_true h3] at g;have i:Hid (∀W,zC 47 #[zI x.mo,zI 0,zI 2399] W λe w'=>e=.returned (.bool (decide (0≤x.mo∧x.mo≤2399)))∧w'=W):=λW=>cal.cin x.mo 0 2399 W;rw[decide_eq_false h4] at i;have s:Hid (deb.Mays x.ds):=hd;clear h hl hd h1 h2 h3 h4;go_enter Tryz.func44,Tryz.ntmps44;go_upto_region 1 with fail
 rw[m.o];go_wp2_with fail;refine k.o.mono ?_;rintro e A ⟨f,rfl,hf,q⟩;subst q;obtain rfl:f=0:=hf.ok.2 s.o;clear hf;go_wp2_with fail;refine(c.o _).mono ?_;rintro e r ⟨rfl,a⟩;subst a;go_wp2_with fail;refine(d.o _).mono ?_;rintro e r ⟨rfl,a⟩;subst a;go_wp2_with fail;refine(g.o _).mono ?_;rintro e r ⟨rfl,a⟩;subst a;go_wp2_with fail;refine(i.o _).mono ?_;rintro e r ⟨rfl,a⟩;subst a;go_wp2_with fail
 all_goals first
  |(rename_i q1 q2;exact absurd q1 (by simp[undef]))
  |(go_ret;exact⟨rfl,b.o⟩)
theorem amay5(x:Ac)(p:Option Addr)(len cap:Nat)(w:World)(h:RowD w p len x.ds)(hl:len≤maxLen)(hd:deb.Mays x.ds)(h1:0≤x.me∧x.me≤49)(h2:0≤x.rv∧x.rv≤15)(h3:1≤x.nx∧x.nx≤1048576)(h4:0≤x.mo∧x.mo≤2399)(h5:¬ (0≤x.bo∧x.bo≤10000000)):Calls Tryz.prog 44 #[.agg #[zI x.me,zI x.rv,zI x.nx,zI x.mo,zI x.bo,zI x.fr,.slice p len cap]] w λe w'=>e=.returned (.bool false)∧zB w w':=by
 obtain⟨r,q,l,b,-⟩:=sh1 w #[zI x.me,zI x.rv,zI x.nx,zI x.mo,zI x.bo,zI x.fr,.slice p len cap] 55;have n:Hid (RowD r p len x.ds):=h.below b.o;obtain⟨c0,c1,c2,u,y,z,A⟩:=scl7 l;have m:Hid (zC 86 #[.slice p len cap] r λe w'=>∃f,e=.returned (zI f)∧deb.FaultIs x.ds f∧w'=r):=deb.rfault p len cap x.ds _ n.o hl;have c:Hid (∀W,zC 47 #[zI x.me,zI 0,zI 49] W λe w'=>e=.returned (.bool (decide (0≤x.me∧x.me≤49)))∧w'=W):=λW=>cal.cin x.me 0 49 W;rw[decide_eq_true h1] at c;have d:Hid (∀W,zC 47 #[zI x.rv,zI 0,zI 15] W λe w'=>e=.returned (.bool (decide (0≤x.rv∧x.rv≤15)))∧w'=W):=λW=>cal.cin x.rv 0 15 W;rw[decide_eq_true h2] at d;have g:Hid (∀W,zC 47 #[zI x.nx,zI 1,zI 1048576] W λe w'=>e=.returned (.bool (decide (1≤x.nx∧x.nx≤1048576)))∧w'=W):=λW=>cal.cin x.nx 1 1048576 W;rw[decide_eq_true h3] at g;have i:Hid (∀W,zC 47 #[zI x.mo,zI 0,zI 2399] W λe w'=>e=.returned (.bool (decide (0≤x.mo∧x.mo≤2399)))∧w'=W):=λW=>cal.cin x.mo 0 2399 W;rw[decide_eq_true h4] at i;have j:Hid (∀W,zC 47 #[zI x.bo,zI 0,zI 10000000] W λe w'=>e=.returned (.bool (decide (0≤x.bo∧x.bo≤10000000)))∧w'=W):=λW=>cal.cin x.bo 0 10000000 W;rw[decide_eq_false h5] at j;have t:Hid (deb.Mays x.ds):=hd;clear h hl hd h1 h2 h3 h4 h5;go_enter Tryz.func44,Tryz.ntmps44;go_upto_region 1 with fail
 rw[q.o];go_wp2_with fail;refine m.o.mono ?_;rintro e B ⟨f,rfl,hf,s⟩;subst s;obtain rfl:f=0:=hf.ok.2 t.o;clear hf;go_wp2_with fail;refine(c.o _).mono ?_;rintro e k ⟨rfl,a⟩;subst a;go_wp2_with fail;refine(d.o _).mono ?_;rintro e k ⟨rfl,a⟩;subst a;go_wp2_with fail;refine(g.o _).mono ?_;rintro e k ⟨rfl,a⟩;subst a;go_wp2_with fail;refine(i.o _).mono ?_;rintro e k ⟨rfl,a⟩;subst a;go_wp2_with fail;refine(j.o _).mono ?_;rintro e k ⟨rfl,a⟩;subst a;go_wp2_with fail
 all_goals first
  |(rename_i q1 q2;exact absurd q1 (by simp[undef]))
  |(go_ret;exact⟨rfl,b.o⟩)
theorem amay6(x:Ac)(p:Option Addr)(len cap:Nat)(w:World)(h:RowD w p len x.ds)(hl:len≤maxLen)(hd:deb.Mays x.ds)(h1:0≤x.me∧x.me≤49)(h2:0≤x.rv∧x.rv≤15)(h3:1≤x.nx∧x.nx≤1048576)(h4:0≤x.mo∧x.mo≤2399)(h5:0≤x.bo∧x.bo≤10000000)(h6:¬ (-1≤x.fr∧x.fr≤x.mo)):Calls Tryz.prog 44 #[.agg #[zI x.me,zI x.rv,zI x.nx,zI x.mo,zI x.bo,zI x.fr,.slice p len cap]] w λe w'=>e=.returned (.bool false)∧zB w w':=by
 obtain⟨s,r,m,b,-⟩:=sh1 w #[zI x.me,zI x.rv,zI x.nx,zI x.mo,zI x.bo,zI x.fr,.slice p len cap] 55;have q:Hid (RowD s p len x.ds):=h.below b.o;obtain⟨c0,c1,c2,y,z,A,B⟩:=scl7 m;have n:Hid (zC 86 #[.slice p len cap] s λe w'=>∃f,e=.returned (zI f)∧deb.FaultIs x.ds f∧w'=s):=deb.rfault p len cap x.ds _ q.o hl;have c:Hid (∀W,zC 47 #[zI x.me,zI 0,zI 49] W λe w'=>e=.returned (.bool (decide (0≤x.me∧x.me≤49)))∧w'=W):=λW=>cal.cin x.me 0 49 W;rw[decide_eq_true h1] at c;have d:Hid (∀W,zC 47 #[zI x.rv,zI 0,zI 15] W λe w'=>e=.returned (.bool (decide (0≤x.rv∧x.rv≤15)))∧w'=W):=λW=>cal.cin x.rv 0 15 W;rw[decide_eq_true h2] at d;have g:Hid (∀W,zC 47 #[zI x.nx,zI 1,zI 1048576] W λe w'=>e=.returned (.bool (decide (1≤x.nx∧x.nx≤1048576)))∧w'=W):=λW=>cal.cin x.nx 1 1048576 W;rw[decide_eq_true h3] at g;have i:Hid (∀W,zC 47 #[zI x.mo,zI 0,zI 2399] W λe w'=>e=.returned (.bool (decide (0≤x.mo∧x.mo≤2399)))∧w'=W):=λW=>cal.cin x.mo 0 2399 W;rw[decide_eq_true h4] at i;have j:Hid (∀W,zC 47 #[zI x.bo,zI 0,zI 10000000] W λe w'=>e=.returned (.bool (decide (0≤x.bo∧x.bo≤10000000)))∧w'=W):=λW=>cal.cin x.bo 0 10000000 W;rw[decide_eq_true h5] at j;have k:Hid (∀W,zC 47 #[zI x.fr,zI (-1),zI x.mo] W λe w'=>e=.returned (.bool (decide (-1≤x.fr∧x.fr≤x.mo)))∧w'=W):=λW=>cal.cin x.fr (-1) x.mo W;rw[decide_eq_false h6] at k;have u:Hid (deb.Mays x.ds):=hd;clear h hl hd h1 h2 h3 h4 h5 h6;go_enter Tryz.func44,Tryz.ntmps44;go_upto_region 1 with fail
 rw[r.o];go_wp2_with fail;refine n.o.mono ?_;rintro e C ⟨f,rfl,hf,t⟩;subst t;obtain rfl:f=0:=hf.ok.2 u.o;clear hf;go_wp2_with fail;refine(c.o _).mono ?_;rintro e l ⟨rfl,a⟩;subst a;go_wp2_with fail;refine(d.o _).mono ?_;rintro e l ⟨rfl,a⟩;subst a;go_wp2_with fail;refine(g.o _).mono ?_;rintro e l ⟨rfl,a⟩;subst a;go_wp2_with fail;refine(i.o _).mono ?_;rintro e l ⟨rfl,a⟩;subst a;go_wp2_with fail;refine(j.o _).mono ?_;rintro e l ⟨rfl,a⟩;subst a;go_wp2_with fail;refine(k.o _).mono ?_;rintro e l ⟨rfl,a⟩;subst a;go_wp2_with fail
 all_goals first
  |(rename_i q1 q2;exact absurd q1 (by simp[undef]))
  |(go_ret;exact⟨rfl,b.o⟩)
theorem amay7(x:Ac)(p:Option Addr)(len cap:Nat)(w:World)(h:RowD w p len x.ds)(hl:len≤maxLen)(hd:deb.Mays x.ds)(h1:0≤x.me∧x.me≤49)(h2:0≤x.rv∧x.rv≤15)(h3:1≤x.nx∧x.nx≤1048576)(h4:0≤x.mo∧x.mo≤2399)(h5:0≤x.bo∧x.bo≤10000000)(h6:(-1≤x.fr∧x.fr≤x.mo)):Calls Tryz.prog 44 #[.agg #[zI x.me,zI x.rv,zI x.nx,zI x.mo,zI x.bo,zI x.fr,.slice p len cap]] w λe w'=>e=.returned (.bool true)∧zB w w':=by
 obtain⟨s,r,m,b,-⟩:=sh1 w #[zI x.me,zI x.rv,zI x.nx,zI x.mo,zI x.bo,zI x.fr,.slice p len cap] 55;have q:Hid (RowD s p len x.ds):=h.below b.o;obtain⟨c0,c1,c2,y,z,A,B⟩:=scl7 m;have n:Hid (zC 86 #[.slice p len cap] s λe w'=>∃f,e=.returned (zI f)∧deb.FaultIs x.ds f∧w'=s):=deb.rfault p len cap x.ds _ q.o hl;have c:Hid (∀W,zC 47 #[zI x.me,zI 0,zI 49] W λe w'=>e=.returned (.bool (decide (0≤x.me∧x.me≤49)))∧w'=W):=λW=>cal.cin x.me 0 49 W;rw[decide_eq_true h1] at c;have d:Hid (∀W,zC 47 #[zI x.rv,zI 0,zI 15] W λe w'=>e=.returned (.bool (decide (0≤x.rv∧x.rv≤15)))∧w'=W):=λW=>cal.cin x.rv 0 15 W;rw[decide_eq_true h2] at d;have g:Hid (∀W,zC 47 #[zI x.nx,zI 1,zI 1048576] W λe w'=>e=.returned (.bool (decide (1≤x.nx∧x.nx≤1048576)))∧w'=W):=λW=>cal.cin x.nx 1 1048576 W;rw[decide_eq_true h3] at g;have i:Hid (∀W,zC 47 #[zI x.mo,zI 0,zI 2399] W λe w'=>e=.returned (.bool (decide (0≤x.mo∧x.mo≤2399)))∧w'=W):=λW=>cal.cin x.mo 0 2399 W;rw[decide_eq_true h4] at i;have j:Hid (∀W,zC 47 #[zI x.bo,zI 0,zI 10000000] W λe w'=>e=.returned (.bool (decide (0≤x.bo∧x.bo≤10000000)))∧w'=W):=λW=>cal.cin x.bo 0 10000000 W;rw[decide_eq_true h5] at j;have k:Hid (∀W,zC 47 #[zI x.fr,zI (-1),zI x.mo] W λe w'=>e=.returned (.bool (decide (-1≤x.fr∧x.fr≤x.mo)))∧w'=W):=λW=>cal.cin x.fr (-1) x.mo W;rw[decide_eq_true h6] at k;have u:Hid (deb.Mays x.ds):=hd;clear h hl hd h1 h2 h3 h4 h5 h6;go_enter Tryz.func44,Tryz.ntmps44;go_upto_region 1 with fail
 rw[r.o];go_wp2_with fail;refine n.o.mono ?_;rintro e C ⟨f,rfl,hf,t⟩;subst t;obtain rfl:f=0:=hf.ok.2 u.o;clear hf;go_wp2_with fail;refine(c.o _).mono ?_;rintro e l ⟨rfl,a⟩;subst a;go_wp2_with fail;refine(d.o _).mono ?_;rintro e l ⟨rfl,a⟩;subst a;go_wp2_with fail;refine(g.o _).mono ?_;rintro e l ⟨rfl,a⟩;subst a;go_wp2_with fail;refine(i.o _).mono ?_;rintro e l ⟨rfl,a⟩;subst a;go_wp2_with fail;refine(j.o _).mono ?_;rintro e l ⟨rfl,a⟩;subst a;go_wp2_with fail;refine(k.o _).mono ?_;rintro e l ⟨rfl,a⟩;subst a;go_wp2_with fail
 all_goals first
  |(rename_i q1 q2;exact absurd q1 (by simp[undef]))
  |(go_ret;exact⟨rfl,b.o⟩)
theorem ramay(x:Ac)(p:Option Addr)(len cap:Nat)(w:World)(h:RowD w p len x.ds)(hl:len≤maxLen)(hm:AMay x):Calls Tryz.prog 44 #[.agg #[zI x.me,zI x.rv,zI x.nx,zI x.mo,zI x.bo,zI x.fr,.slice p len cap]] w λe w'=>e=.returned (.bool true)∧zB w w':=by
 obtain⟨a,b,c,d,f,g,i⟩:=hm;exact amay7 x p len cap w h hl a b c d f g i
theorem ranot(x:Ac)(p:Option Addr)(len cap:Nat)(w:World)(h:RowD w p len x.ds)(hl:len≤maxLen)(hm:¬ AMay x):Calls Tryz.prog 44 #[.agg #[zI x.me,zI x.rv,zI x.nx,zI x.mo,zI x.bo,zI x.fr,.slice p len cap]] w λe w'=>e=.returned (.bool false)∧zB w w':=by
 by_cases a:deb.Mays x.ds
 ·by_cases b:0≤x.me∧x.me≤49
  ·by_cases c:0≤x.rv∧x.rv≤15
   ·by_cases d:1≤x.nx∧x.nx≤1048576
    ·by_cases f:0≤x.mo∧x.mo≤2399
     ·by_cases g:0≤x.bo∧x.bo≤10000000
      ·by_cases i:-1≤x.fr∧x.fr≤x.mo
       ·exact absurd ⟨a,b,c,d,f,g,i⟩ hm
       ·exact amay6 x p len cap w h hl a b c d f g i
      ·exact amay5 x p len cap w h hl a b c d f g
     ·exact amay4 x p len cap w h hl a b c d f
    ·exact amay3 x p len cap w h hl a b c d
   ·exact amay2 x p len cap w h hl a b c
  ·exact amay1 x p len cap w h hl a b
 ·exact amay0 x p len cap w h hl a
end acc
namespace deb
open tar (Du du0 Came RowD Ld ErrPost TwoPost PairT GaveD)
open Go.RowKit
theorem raged(x b:Int)(m:Nat)(w:World)(hx:0≤x∧x≤1000000000)(hb:0≤b∧b≤10000)(hm:m≤2400):Calls Tryz.prog 134 #[.agg #[zI x,zI b],zI (m:Int)] w λe w'=>e=.returned (.agg #[zI (growN b m x),zI b])∧zB w w':=by
 obtain⟨J,K⟩:=hx;obtain⟨l,n⟩:=hb;have t:Hid (Blk ((w.alloc (.cells #[zI x,zI b] 42)).alloc (.cells #[zI 0,zI 0] 42)) (w.heap.size) #[zI x,zI b] 42):=(Blk.new w _ _).alloc _;have A:Hid (Blk ((w.alloc (.cells #[zI x,zI b] 42)).alloc (.cells #[zI 0,zI 0] 42)) (w.heap.size+1) #[zI 0,zI 0] 42):=Blk.new1 w _ _ _;have s:Hid (zB w ((w.alloc (.cells #[zI x,zI b] 42)).alloc (.cells #[zI 0,zI 0] 42))):=((Below.refl w.heap.size w).alloc (by simp) _).alloc (by simp) _;go_enter Tryz.func134,Tryz.ntmps134;go_wp2_with fail;go_loopw [5] (λz wr=>∃k:Nat,k≤m∧z=zI (k:Int)∧Blk wr w.heap.size #[zI (growN b k x),zI b] 42∧Blk wr (w.heap.size+1) #[zI 0,zI 0] 42∧zB w wr) (λz _=>m-(intOf z).toNat)
 case atStart=>exact⟨0,Nat.zero_le _,rfl,t.o,A.o,s.o⟩
 case round=>
  obtain⟨k,hk,rfl,O,P,Q⟩:=hrel;have L:=zh O;have R:=zh P;have M:=zh Q;clear O P Q;have I:=growN_bd l n J K k;by_cases V:k<m
  ·have H:decide ((k:Int)<(m:Int))=true:=by simp;omega
   have N:Hid (growN b (k+1) x=grow b (growN b k x)):=rfl;have T:0≤growN b k x:=by omega
   have U:=I.2;generalize growN b k x=u at *;have q:=prod_le u b 1000000000 10000 T U l n;have W:IntKind.i64.wrap (u*b)=u*b:=by rw[IntKind.wrap_i64];omega
   have hq:Int.tdiv (u*b) 10000=u*b/10000:=Int.tdiv_eq_ediv_of_nonneg q.1;have X:0≤u*b/10000:=by omega
   have Y:u*b/10000≤1000000000:=by omega
   have g:Hid (grow b u=min 1000000000 (u+u*b/10000)):=rfl;generalize u*b/10000=y at *;have c0:=zy0 L;have c1:=zy1 L;clear I q;go_wp2_with refine zl ?_;intro Z c;have h:=zyb c;have i:=zk1 c R;have j:=zk c M;have S:=zy0 h;clear c c0 c1;by_cases a:1000000000<u+y
   ·have G:decide (1000000000<u+y)=true:=decide_eq_true a;have d:Hid (growN b (k+1) x=1000000000):=by show _=_;rw[N.o,g.o];omega
    go_wp2_with refine zl ?_;intro W2 r;have D:=zyb r;have E:=zk1 r i;have F:=zk r j;clear r S a;go_wp2_with fail;go_roundw
    case rel=>exact⟨k+1,by omega,by go_num,by rw[d.o];exact D.o,E.o,F.o⟩
    case measure=>simp[intOf];omega
   ·have G:decide (1000000000<u+y)=false:=decide_eq_false a;have d:Hid (growN b (k+1) x=u+y):=by show _=_;rw[N.o,g.o];omega
    clear a;go_wp2_with fail;go_roundw
    case rel=>exact⟨k+1,by omega,by go_num,by rw[d.o];exact h.o,i.o,j.o⟩
    case measure=>simp[intOf];omega
  ·obtain rfl:k=m:=by omega
   have H:decide ((k:Int)<(k:Int))=false:=by simp
   generalize p:growN b k x=u at *;have C:=zh p;clear p I;go_wp2_with (first|refine zw ?_|refine zs ?_)
   intro WF c;have f:=zyb c;have B:=zk c M;clear c;go_wp2_with fail;exact zr (.agg #[zI u,zI b]) (by simp[results,Tryz.results134,zy0 f,zy1 f,go_sem]) ⟨by rw[C.o],B.o⟩
theorem rages(a:Option Addr)(len cap:Nat)(ls:List Du)(mo:Int)(w:World)(hr:RowD w a len ls)(hl:len≤maxLen):Calls Tryz.prog 88 #[.slice a len cap,zI mo] w λe w'=>AgePost w ls mo e w':=by
 have a0:=zh (rfault a len cap ls w hr hl);have j:Hid (∀W,zC 47 #[zI mo,zI 0,zI 2400] W λe w'=>e=.returned (.bool (decide (0≤mo∧mo≤2400)))∧w'=W):=λW=>cal.cin mo 0 2400 W;have r:=hr.1;go_enter Tryz.func88,Tryz.ntmps88;go_wp2_with fail;refine a0.o.mono ?_;rintro e w1 ⟨f,rfl,hf,a9⟩;subst a9;have HF:=zh hf;by_cases R:f=0
 ·subst R;have hm:=hf.ok.1 rfl;have Q:=zh hm;have q:=zh r;have ab:len≤8:=by have:=hm.1;omega
  have G:=zh hr;clear hf hm hr hl r;by_cases c:0≤mo∧mo≤2400
  ·rw[decide_eq_true c] at j;have t:=zh c;obtain⟨m,rfl⟩:=Int.eq_ofNat_of_zero_le c.1;have a7:m≤2400:=by omega
   have a1:Hid ((m:Int).toNat=m):=by show _=_;omega
   clear c;go_wp2_with fail;refine(j.o _).mono ?_;rintro e g ⟨rfl,D⟩;subst D;go_wp2_with fail;go_loopw [7,8] (λu z wr=>∃(k:Nat)(V:Value),k≤len∧z=zI (k:Int)∧V=u∧Ld 42 wr g.heap.size V (ageAll (ls.take k) m)∧zB g wr) (λ_ z _=>len-(intOf z).toNat)
   case atStart=>exact⟨0,_,Nat.zero_le _,rfl,rfl,tar.Ld.zero _ _ _,zb⟩
   case round=>
    obtain⟨k,V,hk,rfl,hV,O,J⟩:=hrel;subst hV;have n:=zh J;have a2:=zh O;by_cases C:k<len
    ·have a6:decide ((k:Int)<(len:Int))=true:=by simp;omega
     have B:k<ls.length:=by rw[q.o];exact C
     obtain⟨b,l,rfl,K,hc⟩:=G.o.at (by omega);have c0:wr.cell? ⟨b,l+k*2,none⟩=some (zI (ls.getD k du0).a):=(J.cell (p:=⟨b,l+k*2,none⟩) K).trans (hc k C).1;have c1:wr.cell? ⟨b,l+k*2+1,none⟩=some (zI (ls.getD k du0).b):=(J.cell (p:=⟨b,l+k*2+1,none⟩) K).trans (hc k C).2;have ho:=Q.o.2 k B;have S:Hid (∀W,zC 134 #[.agg #[zI (ls.getD k du0).a,zI (ls.getD k du0).b],zI (m:Int)] W λe w'=>e=.returned (.agg #[zI (growN (ls.getD k du0).b m (ls.getD k du0).a),zI (ls.getD k du0).b])∧zB W w'):=λW=>raged _ _ m W ho.1 ho.2 a7;have a5:=zh (ageAll_take ls m k B);have aa:(ageAll (ls.take k) m).length≤1000000:=by rw[ageAll_len,List.length_take];omega
     clear hc J O ho B;generalize ageAll (ls.take k) m=Z at *;generalize growN (ls.getD k du0).b m (ls.getD k du0).a=d at *;generalize (ls.getD k du0).a=x at *;generalize (ls.getD k du0).b=y at *;go_wp2_with fail;refine(S.o _).mono ?_;rintro e i ⟨rfl,A⟩;have F:=shB n A;have a4:=zh (a2.o.next A);have E:=zyf F (.cells #[zI d,zI y] 42);have HU:Hid (Ld 42 (i.alloc (.cells #[zI d,zI y] 42)) g.heap.size V Z):=a4.o.alloc _;clear A c0 c1;have s:Hid (zB g ((i.alloc (.cells #[zI d,zI y] 42)).alloc (.cells #[zI d,zI y] 42))):=E.o.alloc E.o.size _;have H:Hid (Ld 42 ((i.alloc (.cells #[zI d,zI y] 42)).alloc (.cells #[zI d,zI y] 42)) g.heap.size V Z):=HU.o.alloc _;have X:Hid (((i.alloc (.cells #[zI d,zI y] 42)).alloc (.cells #[zI d,zI y] 42)).cell? ⟨i.heap.size+1,0,none⟩=some (zI d)∧((i.alloc (.cells #[zI d,zI y] 42)).alloc (.cells #[zI d,zI y] 42)).cell? ⟨i.heap.size+1,1,none⟩=some (zI y)):=⟨(Blk.new1 i _ _ _).cell 0,(Blk.new1 i _ _ _).cell 1⟩
     go_wp2_with (first
      |(at_builtin;refine tar.wp_pair debtT rfl _ _ rfl g.heap.size (i.heap.size+1) V Z ⟨d,y⟩ rfl rfl H.o X.o aa s.o.size ?_)
      | fail)
     intro v3 w3 h3 M;have U:Hid (zB g w3):=tar.own_bel H.o M s.o zc s.o.size;have H3:=zh h3;clear h3 M;go_wp2_with fail;go_roundw
     case rel=>exact⟨k+1,v3,by omega,by go_num,by first|rfl|trivial,by rw[a5.o];exact H3.o,U.o⟩
     case measure=>simp[intOf];omega
    ·obtain rfl:k=len:=by omega
     have a6:decide ((k:Int)<(k:Int))=false:=by simp
     have N:ls.take k=ls:=List.take_of_length_le (by rw[q.o];exact zc);rw[N] at O;obtain⟨a3,I,a8,L⟩:=ld_fresh O (ageAll_mays Q.o m);subst a8;have Y:=zh L;have T:Hid (AgeIs ls (m:Int) (ageAll ls m) 0):=.inr (.inr ⟨Q.o,t.o,rfl,by rw[a1.o]⟩);clear J O L N;generalize (ageAll ls m).length=P at *;generalize ageAll ls m=Z at *;go_wp2_with fail;go_ret2;exact⟨a3,P,I,Z,0,rfl,T.o,Y.o,n.o⟩
  ·rw[decide_eq_false c] at j;have t:=zh c;clear c;go_wp2_with fail;refine(j.o _).mono ?_;rintro e g ⟨rfl,D⟩;subst D;go_wp2_with fail;go_ret2;exact⟨none,0,0,[],2,rfl,.inr (.inl ⟨Q.o,t.o,rfl,rfl⟩),fresh_nil _ _,zb⟩
 ·have ac:(f != 0)=true:=by simpa using R
  have HN:Hid (¬ Mays ls):=λh=>R (hf.ok.2 h);clear hf R hr hl;go_wp2_with fail;go_ret2;exact⟨none,0,0,[],f,rfl,.inl ⟨HN.o,HF.o,rfl⟩,fresh_nil _ _,zb⟩
theorem rrec(a:Option Addr)(len cap:Nat)(ls:List Du)(t bp:Int)(w:World)(hr:RowD w a len ls)(hl:len≤maxLen):Calls Tryz.prog 48 #[.slice a len cap,zI t,zI bp] w λe w'=>RecPost w ls t bp e w':=by
 have a4:Hid (zC 86 #[.slice a len cap] w λe w'=>∃f,e=.returned (zI f)∧FaultIs ls f∧w'=w):=rfault a len cap ls w hr hl;have a5:Hid (∀W,zC 89 #[zI t,zI bp] W λe w'=>∃s f,e=.returned (.tuple #[zI s,zI f])∧ShareIs t bp s f∧w'=W):=λW=>rshare t bp W;have G:=hr.1;go_enter Tryz.func48,Tryz.ntmps48;go_wp2_with fail;refine a4.o.mono ?_;rintro e w1 ⟨f,rfl,hf,ab⟩;subst ab;have HF:Hid (FaultIs ls f):=hf;by_cases h0:f=0
 ·subst h0;have hm:=hf.ok.1 rfl;have O:Hid (Mays ls):=hm;have l:Hid (ls.length=len):=G;have a8:len≤8:=by have:=hm.1;omega
  have T:Hid (RowD w1 a len ls):=hr;clear hf hm hr hl G;go_wp2_with fail;refine(a5.o _).mono ?_;rintro e i ⟨s,g,rfl,hs,ac⟩;subst ac;rcases hs with⟨Q,D,hg⟩|⟨Q,D,hg⟩
  ·have HT:Hid (TMay t bp):=Q;have a9:=share_bd Q;rw[← D] at a9;have K:Hid (s=t*bp/10000):=D;subst hg;clear Q D;go_wp2_with fail;go_loopw [11,12,13] (λu v x wr=>∃(k:Nat)(V:Value),k≤len∧x=zI (k:Int)∧v=zI (sumK ls k)∧V=u∧Ld 42 wr i.heap.size V (recK ls s k)∧zB i wr) (λ_ _ x _=>len-(intOf x).toNat)
   case atStart=>exact⟨0,_,Nat.zero_le _,rfl,rfl,rfl,tar.Ld.zero _ _ _,zb⟩
   case round=>
    obtain⟨k,V,hk,rfl,rfl,hV,hu,X⟩:=hrel;subst hV;have j:Hid (zB i wr):=X;have HU:Hid (Ld 42 wr i.heap.size V (recK ls s k)):=hu;have ag:=sumK_bd O.o k (by rw[l.o];exact hk);by_cases N:k<len
    ·have a7:decide ((k:Int)<(len:Int))=true:=by simp;omega
     obtain⟨b,F,rfl,Y,hc⟩:=T.o.at (by omega);have c0:wr.cell? ⟨b,F+k*2,none⟩=some (zI (ls.getD k du0).a):=(X.cell (p:=⟨b,F+k*2,none⟩) Y).trans (hc k N).1;have c1:wr.cell? ⟨b,F+k*2+1,none⟩=some (zI (ls.getD k du0).b):=(X.cell (p:=⟨b,F+k*2+1,none⟩) Y).trans (hc k N).2;have ho:=O.o.2 k (by rw[l.o];exact N);have ae:=ho.1.1;have af:=ho.1.2;have P:Hid (sumK ls k+(ls.getD k du0).a=sumK ls (k+1)):=(sumK_next ls k).symm;have HY:Hid (0<left (ls.getD k du0).a (sumK ls k+(ls.getD k du0).a) s→recK ls s (k+1)=recK ls s k++[⟨left (ls.getD k du0).a (sumK ls k+(ls.getD k du0).a) s,(ls.getD k du0).b⟩]):=recK_yes ls s k;have HZ:Hid (¬ 0<left (ls.getD k du0).a (sumK ls k+(ls.getD k du0).a) s→recK ls s (k+1)=recK ls s k):=recK_no ls s k;have a2:(recK ls s k).length≤1000000:=by have:=recK_len ls s k;omega
     clear hc X hu ho;generalize recK ls s k=Z at *;generalize sumK ls k=q at *;generalize (ls.getD k du0).a=x at *;generalize (ls.getD k du0).b=y at *;by_cases E:x<q+x-s
     ·have a6:decide (x<q+x-s)=true:=decide_eq_true E;have C:left x (q+x) s=x:=by unfold left;omega
      rw[C] at HY HZ;clear E C;by_cases c:0<x
      ·have L:decide (0<x)=true:=decide_eq_true c;have n:Hid (recK ls s (k+1)=Z++[⟨x,y⟩]):=HY.o c;clear c;have m:Hid (zB i (wr.alloc (.cells #[zI x,zI y] 42))):=j.o.alloc j.o.size _;have z:Hid (Ld 42 (wr.alloc (.cells #[zI x,zI y] 42)) i.heap.size V Z):=HU.o.alloc _;have J:Hid ((wr.alloc (.cells #[zI x,zI y] 42)).cell? ⟨wr.heap.size,0,none⟩=some (zI x)∧(wr.alloc (.cells #[zI x,zI y] 42)).cell? ⟨wr.heap.size,1,none⟩=some (zI y)):=⟨(Blk.new wr _ _).cell 0,(Blk.new wr _ _).cell 1⟩
       go_wp2_with (first
        |(at_builtin;refine tar.wp_pair debtT rfl _ _ rfl i.heap.size (wr.heap.size) V Z ⟨x,y⟩ rfl rfl z.o J.o a2 m.o.size ?_)
        | fail)
       intro v3 w3 U B;have I:Hid (zB i w3):=tar.own_bel z.o B m.o zc m.o.size;have H3:Hid (Ld 42 w3 i.heap.size v3 (Z++[⟨x,y⟩])):=U;clear U B c0 c1;go_wp2_with fail;go_roundw
       case rel=>exact⟨k+1,v3,by omega,by go_num,by rw[← P.o],by first|rfl|trivial,by rw[n.o];exact H3.o,I.o⟩
       case measure=>simp[intOf];omega
      ·have L:decide (0<x)=false:=decide_eq_false c;have n:Hid (recK ls s (k+1)=Z):=HZ.o c;clear c;go_wp2_with fail;go_roundw
       case rel=>exact⟨k+1,V,by omega,by go_num,by rw[← P.o],by first|rfl|trivial,by rw[n.o];exact HU.o,j.o⟩
       case measure=>simp[intOf];omega
     ·have a6:decide (x<q+x-s)=false:=decide_eq_false E;have C:left x (q+x) s=q+x-s:=by unfold left;omega
      rw[C] at HY HZ;clear E C;by_cases c:0<q+x-s
      ·have L:decide (0<q+x-s)=true:=decide_eq_true c;have M:decide (s<q+x)=true:=decide_eq_true (by omega);have n:Hid (recK ls s (k+1)=Z++[⟨q+x-s,y⟩]):=HY.o c;clear c;have m:Hid (zB i (wr.alloc (.cells #[zI (q+x-s),zI y] 42))):=j.o.alloc j.o.size _;have z:Hid (Ld 42 (wr.alloc (.cells #[zI (q+x-s),zI y] 42)) i.heap.size V Z):=HU.o.alloc _;have J:Hid ((wr.alloc (.cells #[zI (q+x-s),zI y] 42)).cell? ⟨wr.heap.size,0,none⟩=some (zI (q+x-s))∧(wr.alloc (.cells #[zI (q+x-s),zI y] 42)).cell? ⟨wr.heap.size,1,none⟩=some (zI y)):=⟨(Blk.new wr _ _).cell 0,(Blk.new wr _ _).cell 1⟩
       go_wp2_with (first
        |(at_builtin;refine tar.wp_pair debtT rfl _ _ rfl i.heap.size (wr.heap.size) V Z ⟨(q+x-s),y⟩ rfl rfl z.o J.o a2 m.o.size ?_)
        | fail)
       intro v3 w3 U B;have I:Hid (zB i w3):=tar.own_bel z.o B m.o zc m.o.size;have H3:Hid (Ld 42 w3 i.heap.size v3 (Z++[⟨(q+x-s),y⟩])):=U;clear U B c0 c1;go_wp2_with fail;go_roundw
       case rel=>exact⟨k+1,v3,by omega,by go_num,by rw[← P.o],by first|rfl|trivial,by rw[n.o];exact H3.o,I.o⟩
       case measure=>simp[intOf];omega
      ·have L:decide (0<q+x-s)=false:=decide_eq_false c;have M:decide (s<q+x)=false:=decide_eq_false (by omega);have n:Hid (recK ls s (k+1)=Z):=HZ.o c;clear c;go_wp2_with fail;go_roundw
       case rel=>exact⟨k+1,V,by omega,by go_num,by rw[← P.o],by first|rfl|trivial,by rw[n.o];exact HU.o,j.o⟩
       case measure=>simp[intOf];omega
    ·obtain rfl:k=len:=by omega
     have a7:decide ((k:Int)<(k:Int))=false:=by simp
     have HV:Hid (sumK ls k=sumD ls):=by have:=sumK_all ls;rw[l.o] at this;exact this
     have S:Hid (recK ls s k=recK ls (t*bp/10000) ls.length):=by show _=_;rw[l.o,K.o]
     have a1:Mays (recK ls s k):=⟨Nat.le_trans (recK_len ls s k) a8,fits_mem λd hd=>(recK_ok O.o s k (by rw[l.o];exact zc) d hd).1⟩
     obtain⟨a3,A,aa,a0⟩:=ld_fresh hu a1;subst aa;have R:Hid (Fresh wr i.heap.size a3 (recK ls s k).length A (recK ls s k)):=a0;clear X hu a1 a0;generalize (recK ls s k).length=H at *;generalize recK ls s k=Z at *;generalize sumK ls k=q at *;by_cases r:s<q
     ·have M:decide (s<q)=true:=decide_eq_true r;have HP:Hid (s=min (t*bp/10000) (sumD ls)):=by show _=_;rw[← K.o,← HV.o];omega
      clear r;go_wp2_with fail;go_ret3;exact⟨a3,H,A,Z,s,0,rfl,.inr (.inr ⟨O.o,HT.o,rfl,S.o,HP.o⟩),R.o,j.o⟩
     ·have M:decide (s<q)=false:=decide_eq_false r;have HP:Hid (q=min (t*bp/10000) (sumD ls)):=by show _=_;rw[← K.o,← HV.o];omega
      clear r;go_wp2_with fail;go_ret3;exact⟨a3,H,A,Z,q,0,rfl,.inr (.inr ⟨O.o,HT.o,rfl,S.o,HP.o⟩),R.o,j.o⟩
  ·subst D hg;have HT:Hid (¬ TMay t bp):=Q;clear Q;go_wp2_with fail;go_ret3;exact⟨none,0,0,[],0,2,rfl,.inr (.inl ⟨O.o,HT.o,rfl,rfl,rfl⟩),fresh_nil _ _,zb⟩
 ·have ad:(f != 0)=true:=by simpa using h0
  have P:Hid (¬ Mays ls):=λh=>h0 (hf.ok.2 h);clear hf h0 hr hl;go_wp2_with fail;go_ret3;exact⟨none,0,0,[],0,f,rfl,.inl ⟨P.o,HF.o,rfl,rfl⟩,fresh_nil _ _,zb⟩
end deb
end Go.Proofs.YtoepgdhiepedeaaGreatDoor
