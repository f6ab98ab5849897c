import Derived.Test.YtoepgdhiepedeaaGreatDoorVVRys5
set_option linter.unusedVariables false
set_option linter.unusedSimpArgs false
set_option maxHeartbeats 4000000
set_option maxRecDepth 100000
namespace Go.Proofs.YtoepgdhiepedeaaGreatDoor
namespace deb
open tar (Du du0 Came RowD Ld ErrPost TwoPost PairT GaveD)
open Go.RowKit
theorem debtT:PairT Tryz.prog 42 53:=⟨by kernel_rfl,Tryz.underlying53⟩
theorem prod_le(a b A B:Int)(h1:0≤a)(h2:a≤A)(h3:0≤b)(h4:b≤B):0≤a*b∧a*b≤A*B:=
 ⟨Int.mul_nonneg h1 h3,Int.le_trans (Int.mul_le_mul_of_nonneg_left h4 h1) (Int.mul_le_mul_of_nonneg_right h2 (by omega))⟩
end deb
namespace acc
open tar (Du du0 Came RowD Ld PairT)
open Go.RowKit
theorem amay0(x:Ac)(p:Option Addr)(len cap:Nat)(w:World)(h:RowD w p len x.ds)(hl:len≤maxLen)(hd:¬ deb.Mays x.ds):Calls Tryz.prog 44 #[.agg #[zI x.me,zI x.rv,zI x.nx,zI x.mo,zI x.bo,zI x.fr,.slice p len cap]] w λe w'=>e=.returned (.bool false)∧zB w w':=by
 obtain⟨i,g,b,a,-⟩:=sh1 w #[zI x.me,zI x.rv,zI x.nx,zI x.mo,zI x.bo,zI x.fr,.slice p len cap] 55;have d:Hid (RowD i p len x.ds):=h.below a.o;obtain⟨c0,c1,c2,m,n,q,r⟩:=scl7 b;have c:Hid (zC 86 #[.slice p len cap] i λe w'=>∃f,e=.returned (zI f)∧deb.FaultIs x.ds f∧w'=i):=deb.rfault p len cap x.ds _ d.o hl;have k:Hid (¬ deb.Mays x.ds):=hd;clear h hl hd;go_enter Tryz.func44,Tryz.ntmps44;go_upto_region 1 with fail
 rw[g.o];go_wp2_with fail;refine c.o.mono ?_;rintro e s ⟨f,rfl,hf,j⟩;subst j;have l:(f != 0)=true:=by simpa using λe=>k.o (hf.ok.1 e)
 clear hf;go_wp2_with fail
 all_goals first
  |(rename_i q1 q2;exact absurd q1 (by simp[undef]))
  |(go_ret;exact⟨rfl,a.o⟩)
theorem amay1(x:Ac)(p:Option Addr)(len cap:Nat)(w:World)(h:RowD w p len x.ds)(hl:len≤maxLen)(hd:deb.Mays x.ds)(h1:¬ (0≤x.me∧x.me≤49)):Calls Tryz.prog 44 #[.agg #[zI x.me,zI x.rv,zI x.nx,zI x.mo,zI x.bo,zI x.fr,.slice p len cap]] w λe w'=>e=.returned (.bool false)∧zB w w':=by
 obtain⟨j,i,c,a,-⟩:=sh1 w #[zI x.me,zI x.rv,zI x.nx,zI x.mo,zI x.bo,zI x.fr,.slice p len cap] 55;have g:Hid (RowD j p len x.ds):=h.below a.o;obtain⟨c0,c1,c2,n,q,r,s⟩:=scl7 c;have d:Hid (zC 86 #[.slice p len cap] j λe w'=>∃f,e=.returned (zI f)∧deb.FaultIs x.ds f∧w'=j):=deb.rfault p len cap x.ds _ g.o hl;have b:Hid (∀W,zC 47 #[zI x.me,zI 0,zI 49] W λe w'=>e=.returned (.bool (decide (0≤x.me∧x.me≤49)))∧w'=W):=λW=>cal.cin x.me 0 49 W;rw[decide_eq_false h1] at b;have m:Hid (deb.Mays x.ds):=hd;clear h hl hd h1;go_enter Tryz.func44,Tryz.ntmps44;go_upto_region 1 with fail
 rw[i.o];go_wp2_with fail;refine d.o.mono ?_;rintro e t ⟨f,rfl,hf,k⟩;subst k;obtain rfl:f=0:=hf.ok.2 m.o;clear hf;go_wp2_with fail;refine(b.o _).mono ?_;rintro e u ⟨rfl,l⟩;subst l;go_wp2_with fail
 all_goals first
  |(rename_i q1 q2;exact absurd q1 (by simp[undef]))
  |(go_ret;exact⟨rfl,a.o⟩)
theorem amay2(x:Ac)(p:Option Addr)(len cap:Nat)(w:World)(h:RowD w p len x.ds)(hl:len≤maxLen)(hd:deb.Mays x.ds)(h1:0≤x.me∧x.me≤49)(h2:¬ (0≤x.rv∧x.rv≤15)):Calls Tryz.prog 44 #[.agg #[zI x.me,zI x.rv,zI x.nx,zI x.mo,zI x.bo,zI x.fr,.slice p len cap]] w λe w'=>e=.returned (.bool false)∧zB w w':=by
 obtain⟨l,k,g,b,-⟩:=sh1 w #[zI x.me,zI x.rv,zI x.nx,zI x.mo,zI x.bo,zI x.fr,.slice p len cap] 55;have j:Hid (RowD l p len x.ds):=h.below b.o;obtain⟨c0,c1,c2,r,s,t,u⟩:=scl7 g;have i:Hid (zC 86 #[.slice p len cap] l λe w'=>∃f,e=.returned (zI f)∧deb.FaultIs x.ds f∧w'=l):=deb.rfault p len cap x.ds _ j.o hl;have c:Hid (∀W,zC 47 #[zI x.me,zI 0,zI 49] W λe w'=>e=.returned (.bool (decide (0≤x.me∧x.me≤49)))∧w'=W):=λW=>cal.cin x.me 0 49 W;rw[decide_eq_true h1] at c;have d:Hid (∀W,zC 47 #[zI x.rv,zI 0,zI 15] W λe w'=>e=.returned (.bool (decide (0≤x.rv∧x.rv≤15)))∧w'=W):=λW=>cal.cin x.rv 0 15 W;rw[decide_eq_false h2] at d;have n:Hid (deb.Mays x.ds):=hd;clear h hl hd h1 h2;go_enter Tryz.func44,Tryz.ntmps44;go_upto_region 1 with fail
 rw[k.o];go_wp2_with fail;refine i.o.mono ?_;rintro e y ⟨f,rfl,hf,m⟩;subst m;obtain rfl:f=0:=hf.ok.2 n.o;clear hf;go_wp2_with fail;refine(c.o _).mono ?_;rintro e q ⟨rfl,a⟩;subst a;go_wp2_with fail;refine(d.o _).mono ?_;rintro e q ⟨rfl,a⟩;subst a;go_wp2_with fail
 all_goals first
  |(rename_i q1 q2;exact absurd q1 (by simp[undef]))
  |(go_ret;exact⟨rfl,b.o⟩)
theorem amay3(x:Ac)(p:Option Addr)(len cap:Nat)(w:World)(h:RowD w p len x.ds)(hl:len≤maxLen)(hd:deb.Mays x.ds)(h1:0≤x.me∧x.me≤49)(h2:0≤x.rv∧x.rv≤15)(h3:¬ (1≤x.nx∧x.nx≤1048576)):Calls Tryz.prog 44 #[.agg #[zI x.me,zI x.rv,zI x.nx,zI x.mo,zI x.bo,zI x.fr,.slice p len cap]] w λe w'=>e=.returned (.bool false)∧zB w w':=by
 obtain⟨m,l,i,b,-⟩:=sh1 w #[zI x.me,zI x.rv,zI x.nx,zI x.mo,zI x.bo,zI x.fr,.slice p len cap] 55;have k:Hid (RowD m p len x.ds):=h.below b.o;obtain⟨c0,c1,c2,s,t,u,y⟩:=scl7 i;have j:Hid (zC 86 #[.slice p len cap] m λe w'=>∃f,e=.returned (zI f)∧deb.FaultIs x.ds f∧w'=m):=deb.rfault p len cap x.ds _ k.o hl;have c:Hid (∀W,zC 47 #[zI x.me,zI 0,zI 49] W λe w'=>e=.returned (.bool (decide (0≤x.me∧x.me≤49)))∧w'=W):=λW=>cal.cin x.me 0 49 W;rw[decide_eq_true h1] at c;have d:Hid (∀W,zC 47 #[zI x.rv,zI 0,zI 15] W λe w'=>e=.returned (.bool (decide (0≤x.rv∧x.rv≤15)))∧w'=W):=λW=>cal.cin x.rv 0 15 W;rw[decide_eq_true h2] at d;have g:Hid (∀W,zC 47 #[zI x.nx,zI 1,zI 1048576] W λe w'=>e=.returned (.bool (decide (1≤x.nx∧x.nx≤1048576)))∧w'=W):=λW=>cal.cin x.nx 1 1048576 W;rw[decide_eq_false h3] at g;have r:Hid (deb.Mays x.ds):=hd;clear h hl hd h1 h2 h3;go_enter Tryz.func44,Tryz.ntmps44;go_upto_region 1 with fail
 rw[l.o];go_wp2_with fail;refine j.o.mono ?_;rintro e z ⟨f,rfl,hf,n⟩;subst n;obtain rfl:f=0:=hf.ok.2 r.o;clear hf;go_wp2_with fail;refine(c.o _).mono ?_;rintro e q ⟨rfl,a⟩;subst a;go_wp2_with fail;refine(d.o _).mono ?_;rintro e q ⟨rfl,a⟩;subst a;go_wp2_with fail;refine(g.o _).mono ?_;rintro e q ⟨rfl,a⟩;subst a;go_wp2_with fail
 all_goals first
  |(rename_i q1 q2;exact absurd q1 (by simp[undef]))
  |(go_ret;exact⟨rfl,b.o⟩)
theorem amay4(x:Ac)(p:Option Addr)(len cap:Nat)(w:World)(h:RowD w p len x.ds)(hl:len≤maxLen)(hd:deb.Mays x.ds)(h1:0≤x.me∧x.me≤49)(h2:0≤x.rv∧x.rv≤15)(h3:1≤x.nx∧x.nx≤1048576)(h4:¬ (0≤x.mo∧x.mo≤2399)):Calls Tryz.prog 44 #[.agg #[zI x.me,zI x.rv,zI x.nx,zI x.mo,zI x.bo,zI x.fr,.slice p len cap]] w λe w'=>e=.returned (.bool false)∧zB w w':=by
 obtain⟨n,m,j,b,-⟩:=sh1 w #[zI x.me,zI x.rv,zI x.nx,zI x.mo,zI x.bo,zI x.fr,.slice p len cap] 55;have l:Hid (RowD n p len x.ds):=h.below b.o;obtain⟨c0,c1,c2,t,u,y,z⟩:=scl7 j;have k:Hid (zC 86 #[.slice p len cap] n λe w'=>∃f,e=.returned (zI f)∧deb.FaultIs x.ds f∧w'=n):=deb.rfault p len cap x.ds _ l.o hl;have c:Hid (∀W,zC 47 #[zI x.me,zI 0,zI 49] W λe w'=>e=.returned (.bool (decide (0≤x.me∧x.me≤49)))∧w'=W):=λW=>cal.cin x.me 0 49 W;rw[decide_eq_true h1] at c;have d:Hid (∀W,zC 47 #[zI x.rv,zI 0,zI 15] W λe w'=>e=.returned (.bool (decide (0≤x.rv∧x.rv≤15)))∧w'=W):=λW=>cal.cin x.rv 0 15 W;rw[decide_eq_true h2] at d;have g:Hid (∀W,zC 47 #[zI x.nx,zI 1,zI 1048576] W λe w'=>e=.returned (.bool (decide (1≤x.nx∧x.nx≤1048576)))∧w'=W):=λW=>cal.cin x.nx 1 1048576 W;rw[decide_eq_true h3] at g;have i:Hid (∀W,zC 47 #[zI x.mo,zI 0,zI 2399] W λe w'=>e=.returned (.bool (decide (0≤x.mo∧x.mo≤2399)))∧w'=W):=λW=>cal.cin x.mo 0 2399 W;rw[decide_eq_false h4] at i;have s:Hid (deb.Mays x.ds):=hd;clear h hl hd h1 h2 h3 h4;go_enter Tryz.func44,Tryz.ntmps44;go_upto_region 1 with fail
 rw[m.o];go_wp2_with fail;refine k.o.mono ?_;rintro e A ⟨f,rfl,hf,q⟩;subst q;obtain rfl:f=0:=hf.ok.2 s.o;clear hf;go_wp2_with fail;refine(c.o _).mono ?_;rintro e r ⟨rfl,a⟩;subst a;go_wp2_with fail;refine(d.o _).mono ?_;rintro e r ⟨rfl,a⟩;subst a;go_wp2_with fail;refine(g.o _).mono ?_;rintro e r ⟨rfl,a⟩;subst a;go_wp2_with fail;refine(i.o _).mono ?_;rintro e r ⟨rfl,a⟩;subst a;go_wp2_with fail
 all_goals first
  |(rename_i q1 q2;exact absurd q1 (by simp[undef]))
  |(go_ret;exact⟨rfl,b.o⟩)
theorem amay5(x:Ac)(p:Option Addr)(len cap:Nat)(w:World)(h:RowD w p len x.ds)(hl:len≤maxLen)(hd:deb.Mays x.ds)(h1:0≤x.me∧x.me≤49)(h2:0≤x.rv∧x.rv≤15)(h3:1≤x.nx∧x.nx≤1048576)(h4:0≤x.mo∧x.mo≤2399)(h5:¬ (0≤x.bo∧x.bo≤10000000)):Calls Tryz.prog 44 #[.agg #[zI x.me,zI x.rv,zI x.nx,zI x.mo,zI x.bo,zI x.fr,.slice p len cap]] w λe w'=>e=.returned (.bool false)∧zB w w':=by
 obtain⟨r,q,l,b,-⟩:=sh1 w #[zI x.me,zI x.rv,zI x.nx,zI x.mo,zI x.bo,zI x.fr,.slice p len cap] 55;have n:Hid (RowD r p len x.ds):=h.below b.o;obtain⟨c0,c1,c2,u,y,z,A⟩:=scl7 l;have m:Hid (zC 86 #[.slice p len cap] r λe w'=>∃f,e=.returned (zI f)∧deb.FaultIs x.ds f∧w'=r):=deb.rfault p len cap x.ds _ n.o hl;have c:Hid (∀W,zC 47 #[zI x.me,zI 0,zI 49] W λe w'=>e=.returned (.bool (decide (0≤x.me∧x.me≤49)))∧w'=W):=λW=>cal.cin x.me 0 49 W;rw[decide_eq_true h1] at c;have d:Hid (∀W,zC 47 #[zI x.rv,zI 0,zI 15] W λe w'=>e=.returned (.bool (decide (0≤x.rv∧x.rv≤15)))∧w'=W):=λW=>cal.cin x.rv 0 15 W;rw[decide_eq_true h2] at d;have g:Hid (∀W,zC 47 #[zI x.nx,zI 1,zI 1048576] W λe w'=>e=.returned (.bool (decide (1≤x.nx∧x.nx≤1048576)))∧w'=W):=λW=>cal.cin x.nx 1 1048576 W;rw[decide_eq_true h3] at g;have i:Hid (∀W,zC 47 #[zI x.mo,zI 0,zI 2399] W λe w'=>e=.returned (.bool (decide (0≤x.mo∧x.mo≤2399)))∧w'=W):=λW=>cal.cin x.mo 0 2399 W;rw[decide_eq_true h4] at i;have j:Hid (∀W,zC 47 #[zI x.bo,zI 0,zI 10000000] W λe w'=>e=.returned (.bool (decide (0≤x.bo∧x.bo≤10000000)))∧w'=W):=λW=>cal.cin x.bo 0 10000000 W;rw[decide_eq_false h5] at j;have t:Hid (deb.Mays x.ds):=hd;clear h hl hd h1 h2 h3 h4 h5;go_enter Tryz.func44,Tryz.ntmps44;go_upto_region 1 with fail
 rw[q.o];go_wp2_with fail;refine m.o.mono ?_;rintro e B ⟨f,rfl,hf,s⟩;subst s;obtain rfl:f=0:=hf.ok.2 t.o;clear hf;go_wp2_with fail;refine(c.o _).mono ?_;rintro e k ⟨rfl,a⟩;subst a;go_wp2_with fail;refine(d.o _).mono ?_;rintro e k ⟨rfl,a⟩;subst a;go_wp2_with fail;refine(g.o _).mono ?_;rintro e k ⟨rfl,a⟩;subst a;go_wp2_with fail;refine(i.o _).mono ?_;rintro e k ⟨rfl,a⟩;subst a;go_wp2_with fail;refine(j.o _).mono ?_;rintro e k ⟨rfl,a⟩;subst a;go_wp2_with fail
 all_goals first
  |(rename_i q1 q2;exact absurd q1 (by simp[undef]))
  |(go_ret;exact⟨rfl,b.o⟩)
theorem amay6(x:Ac)(p:Option Addr)(len cap:Nat)(w:World)(h:RowD w p len x.ds)(hl:len≤maxLen)(hd:deb.Mays x.ds)(h1:0≤x.me∧x.me≤49)(h2:0≤x.rv∧x.rv≤15)(h3:1≤x.nx∧x.nx≤1048576)(h4:0≤x.mo∧x.mo≤2399)(h5:0≤x.bo∧x.bo≤10000000)(h6:¬ (-1≤x.fr∧x.fr≤x.mo)):Calls Tryz.prog 44 #[.agg #[zI x.me,zI x.rv,zI x.nx,zI x.mo,zI x.bo,zI x.fr,.slice p len cap]] w λe w'=>e=.returned (.bool false)∧zB w w':=by
 obtain⟨s,r,m,b,-⟩:=sh1 w #[zI x.me,zI x.rv,zI x.nx,zI x.mo,zI x.bo,zI x.fr,.slice p len cap] 55;have q:Hid (RowD s p len x.ds):=h.below b.o;obtain⟨c0,c1,c2,y,z,A,B⟩:=scl7 m;have n:Hid (zC 86 #[.slice p len cap] s λe w'=>∃f,e=.returned (zI f)∧deb.FaultIs x.ds f∧w'=s):=deb.rfault p len cap x.ds _ q.o hl;have c:Hid (∀W,zC 47 #[zI x.me,zI 0,zI 49] W λe w'=>e=.returned (.bool (decide (0≤x.me∧x.me≤49)))∧w'=W):=λW=>cal.cin x.me 0 49 W;rw[decide_eq_true h1] at c;have d:Hid (∀W,zC 47 #[zI x.rv,zI 0,zI 15] W λe w'=>e=.returned (.bool (decide (0≤x.rv∧x.rv≤15)))∧w'=W):=λW=>cal.cin x.rv 0 15 W;rw[decide_eq_true h2] at d;have g:Hid (∀W,zC 47 #[zI x.nx,zI 1,zI 1048576] W λe w'=>e=.returned (.bool (decide (1≤x.nx∧x.nx≤1048576)))∧w'=W):=λW=>cal.cin x.nx 1 1048576 W;rw[decide_eq_true h3] at g;have i:Hid (∀W,zC 47 #[zI x.mo,zI 0,zI 2399] W λe w'=>e=.returned (.bool (decide (0≤x.mo∧x.mo≤2399)))∧w'=W):=λW=>cal.cin x.mo 0 2399 W;rw[decide_eq_true h4] at i;have j:Hid (∀W,zC 47 #[zI x.bo,zI 0,zI 10000000] W λe w'=>e=.returned (.bool (decide (0≤x.bo∧x.bo≤10000000)))∧w'=W):=λW=>cal.cin x.bo 0 10000000 W;rw[decide_eq_true h5] at j;have k:Hid (∀W,zC 47 #[zI x.fr,zI (-1),zI x.mo] W λe w'=>e=.returned (.bool (decide (-1≤x.fr∧x.fr≤x.mo)))∧w'=W):=λW=>cal.cin x.fr (-1) x.mo W;rw[decide_eq_false h6] at k;have u:Hid (deb.Mays x.ds):=hd;clear h hl hd h1 h2 h3 h4 h5 h6;go_enter Tryz.func44,Tryz.ntmps44;go_upto_region 1 with fail
 rw[r.o];go_wp2_with fail;refine n.o.mono ?_;rintro e C ⟨f,rfl,hf,t⟩;subst t;obtain rfl:f=0:=hf.ok.2 u.o;clear hf;go_wp2_with fail;refine(c.o _).mono ?_;rintro e l ⟨rfl,a⟩;subst a;go_wp2_with fail;refine(d.o _).mono ?_;rintro e l ⟨rfl,a⟩;subst a;go_wp2_with fail;refine(g.o _).mono ?_;rintro e l ⟨rfl,a⟩;subst a;go_wp2_with fail;refine(i.o _).mono ?_;rintro e l ⟨rfl,a⟩;subst a;go_wp2_with fail;refine(j.o _).mono ?_;rintro e l ⟨rfl,a⟩;subst a;go_wp2_with fail;refine(k.o _).mono ?_;rintro e l ⟨rfl,a⟩;subst a;go_wp2_with fail
 all_goals first
  |(rename_i q1 q2;exact absurd q1 (by simp[undef]))
  |(go_ret;exact⟨rfl,b.o⟩)
theorem amay7(x:Ac)(p:Option Addr)(len cap:Nat)(w:World)(h:RowD w p len x.ds)(hl:len≤maxLen)(hd:deb.Mays x.ds)(h1:0≤x.me∧x.me≤49)(h2:0≤x.rv∧x.rv≤15)(h3:1≤x.nx∧x.nx≤1048576)(h4:0≤x.mo∧x.mo≤2399)(h5:0≤x.bo∧x.bo≤10000000)(h6:(-1≤x.fr∧x.fr≤x.mo)):Calls Tryz.prog 44 #[.agg #[zI x.me,zI x.rv,zI x.nx,zI x.mo,zI x.bo,zI x.fr,.slice p len cap]] w λe w'=>e=.returned (.bool true)∧zB w w':=by
 obtain⟨s,r,m,b,-⟩:=sh1 w #[zI x.me,zI x.rv,zI x.nx,zI x.mo,zI x.bo,zI x.fr,.slice p len cap] 55;have q:Hid (RowD s p len x.ds):=h.below b.o;obtain⟨c0,c1,c2,y,z,A,B⟩:=scl7 m;have n:Hid (zC 86 #[.slice p len cap] s λe w'=>∃f,e=.returned (zI f)∧deb.FaultIs x.ds f∧w'=s):=deb.rfault p len cap x.ds _ q.o hl;have c:Hid (∀W,zC 47 #[zI x.me,zI 0,zI 49] W λe w'=>e=.returned (.bool (decide (0≤x.me∧x.me≤49)))∧w'=W):=λW=>cal.cin x.me 0 49 W;rw[decide_eq_true h1] at c;have d:Hid (∀W,zC 47 #[zI x.rv,zI 0,zI 15] W λe w'=>e=.returned (.bool (decide (0≤x.rv∧x.rv≤15)))∧w'=W):=λW=>cal.cin x.rv 0 15 W;rw[decide_eq_true h2] at d;have g:Hid (∀W,zC 47 #[zI x.nx,zI 1,zI 1048576] W λe w'=>e=.returned (.bool (decide (1≤x.nx∧x.nx≤1048576)))∧w'=W):=λW=>cal.cin x.nx 1 1048576 W;rw[decide_eq_true h3] at g;have i:Hid (∀W,zC 47 #[zI x.mo,zI 0,zI 2399] W λe w'=>e=.returned (.bool (decide (0≤x.mo∧x.mo≤2399)))∧w'=W):=λW=>cal.cin x.mo 0 2399 W;rw[decide_eq_true h4] at i;have j:Hid (∀W,zC 47 #[zI x.bo,zI 0,zI 10000000] W λe w'=>e=.returned (.bool (decide (0≤x.bo∧x.bo≤10000000)))∧w'=W):=λW=>cal.cin x.bo 0 10000000 W;rw[decide_eq_true h5] at j;have k:Hid (∀W,zC 47 #[zI x.fr,zI (-1),zI x.mo] W λe w'=>e=.returned (.bool (decide (-1≤x.fr∧x.fr≤x.mo)))∧w'=W):=λW=>cal.cin x.fr (-1) x.mo W;rw[decide_eq_true h6] at k;have u:Hid (deb.Mays x.ds):=hd;clear h hl hd h1 h2 h3 h4 h5 h6;go_enter Tryz.func44,Tryz.ntmps44;go_upto_region 1 with fail
 rw[r.o];go_wp2_with fail;refine n.o.mono ?_;rintro e C ⟨f,rfl,hf,t⟩;subst t;obtain rfl:f=0:=hf.ok.2 u.o;clear hf;go_wp2_with fail;refine(c.o _).mono ?_;rintro e l ⟨rfl,a⟩;subst a;go_wp2_with fail;refine(d.o _).mono ?_;rintro e l ⟨rfl,a⟩;subst a;go_wp2_with fail;refine(g.o _).mono ?_;rintro e l ⟨rfl,a⟩;subst a;go_wp2_with fail;refine(i.o _).mono ?_;rintro e l ⟨rfl,a⟩;subst a;go_wp2_with fail;refine(j.o _).mono ?_;rintro e l ⟨rfl,a⟩;subst a;go_wp2_with fail;refine(k.o _).mono ?_;rintro e l ⟨rfl,a⟩;subst a;go_wp2_with fail
 all_goals first
  |(rename_i q1 q2;exact absurd q1 (by simp[undef]))
  |(go_ret;exact⟨rfl,b.o⟩)
theorem ramay(x:Ac)(p:Option Addr)(len cap:Nat)(w:World)(h:RowD w p len x.ds)(hl:len≤maxLen)(hm:AMay x):Calls Tryz.prog 44 #[.agg #[zI x.me,zI x.rv,zI x.nx,zI x.mo,zI x.bo,zI x.fr,.slice p len cap]] w λe w'=>e=.returned (.bool true)∧zB w w':=by
 obtain⟨a,b,c,d,f,g,i⟩:=hm;exact amay7 x p len cap w h hl a b c d f g i
theorem ranot(x:Ac)(p:Option Addr)(len cap:Nat)(w:World)(h:RowD w p len x.ds)(hl:len≤maxLen)(hm:¬ AMay x):Calls Tryz.prog 44 #[.agg #[zI x.me,zI x.rv,zI x.nx,zI x.mo,zI x.bo,zI x.fr,.slice p len cap]] w λe w'=>e=.returned (.bool false)∧zB w w':=by
 by_cases a:deb.Mays x.ds
 ·by_cases b:0≤x.me∧x.me≤49
  ·by_cases c:0≤x.rv∧x.rv≤15
   ·by_cases d:1≤x.nx∧x.nx≤1048576
    ·by_cases f:0≤x.mo∧x.mo≤2399
     ·by_cases g:0≤x.bo∧x.bo≤10000000
      ·by_cases i:-1≤x.fr∧x.fr≤x.mo
       ·exact absurd ⟨a,b,c,d,f,g,i⟩ hm
       ·exact amay6 x p len cap w h hl a b c d f g i
      ·exact amay5 x p len cap w h hl a b c d f g
     ·exact amay4 x p len cap w h hl a b c d f
    ·exact amay3 x p len cap w h hl a b c d
   ·exact amay2 x p len cap w h hl a b c
  ·exact amay1 x p len cap w h hl a b
 ·exact amay0 x p len cap w h hl a
end acc
namespace deb
open tar (Du du0 Came RowD Ld ErrPost TwoPost PairT GaveD)
open Go.RowKit
theorem raged(x b:Int)(m:Nat)(w:World)(hx:0≤x∧x≤1000000000)(hb:0≤b∧b≤10000)(hm:m≤2400):Calls Tryz.prog 134 #[.agg #[zI x,zI b],zI (m:Int)] w λe w'=>e=.returned (.agg #[zI (growN b m x),zI b])∧zB w w':=by
 obtain⟨J,K⟩:=hx;obtain⟨l,n⟩:=hb;have t:Hid (Blk ((w.alloc (.cells #[zI x,zI b] 42)).alloc (.cells #[zI 0,zI 0] 42)) (w.heap.size) #[zI x,zI b] 42):=(Blk.new w _ _).alloc _;have A:Hid (Blk ((w.alloc (.cells #[zI x,zI b] 42)).alloc (.cells #[zI 0,zI 0] 42)) (w.heap.size+1) #[zI 0,zI 0] 42):=Blk.new1 w _ _ _;have s:Hid (zB w ((w.alloc (.cells #[zI x,zI b] 42)).alloc (.cells #[zI 0,zI 0] 42))):=((Below.refl w.heap.size w).alloc (by simp) _).alloc (by simp) _;go_enter Tryz.func134,Tryz.ntmps134;go_wp2_with fail;go_loopw [5] (λz wr=>∃k:Nat,k≤m∧z=zI (k:Int)∧Blk wr w.heap.size #[zI (growN b k x),zI b] 42∧Blk wr (w.heap.size+1) #[zI 0,zI 0] 42∧zB w wr) (λz _=>m-(intOf z).toNat)
 case atStart=>exact⟨0,Nat.zero_le _,rfl,t.o,A.o,s.o⟩
 case round=>
  obtain⟨k,hk,rfl,O,P,Q⟩:=hrel;have L:=zh O;have R:=zh P;have M:=zh Q;clear O P Q;have I:=growN_bd l n J K k;by_cases V:k<m
  ·have H:decide ((k:Int)<(m:Int))=true:=by simp;omega
   have N:Hid (growN b (k+1) x=grow b (growN b k x)):=rfl;have T:0≤growN b k x:=by omega
   have U:=I.2;generalize growN b k x=u at *;have q:=prod_le u b 1000000000 10000 T U l n;have W:IntKind.i64.wrap (u*b)=u*b:=by rw[IntKind.wrap_i64];omega
   have hq:Int.tdiv (u*b) 10000=u*b/10000:=Int.tdiv_eq_ediv_of_nonneg q.1;have X:0≤u*b/10000:=by omega
   have Y:u*b/10000≤1000000000:=by omega
   have g:Hid (grow b u=min 1000000000 (u+u*b/10000)):=rfl;generalize u*b/10000=y at *;have c0:=zy0 L;have c1:=zy1 L;clear I q;go_wp2_with refine zl ?_;intro Z c;have h:=zyb c;have i:=zk1 c R;have j:=zk c M;have S:=zy0 h;clear c c0 c1;by_cases a:1000000000<u+y
   ·have G:decide (1000000000<u+y)=true:=decide_eq_true a;have d:Hid (growN b (k+1) x=1000000000):=by show _=_;rw[N.o,g.o];omega
    go_wp2_with refine zl ?_;intro W2 r;have D:=zyb r;have E:=zk1 r i;have F:=zk r j;clear r S a;go_wp2_with fail;go_roundw
    case rel=>exact⟨k+1,by omega,by go_num,by rw[d.o];exact D.o,E.o,F.o⟩
    case measure=>simp[intOf];omega
   ·have G:decide (1000000000<u+y)=false:=decide_eq_false a;have d:Hid (growN b (k+1) x=u+y):=by show _=_;rw[N.o,g.o];omega
    clear a;go_wp2_with fail;go_roundw
    case rel=>exact⟨k+1,by omega,by go_num,by rw[d.o];exact h.o,i.o,j.o⟩
    case measure=>simp[intOf];omega
  ·obtain rfl:k=m:=by omega
   have H:decide ((k:Int)<(k:Int))=false:=by simp
   generalize p:growN b k x=u at *;have C:=zh p;clear p I;go_wp2_with (first|refine zw ?_|refine zs ?_)
   intro WF c;have f:=zyb c;have B:=zk c M;clear c;go_wp2_with fail;exact zr (.agg #[zI u,zI b]) (by simp[results,Tryz.results134,zy0 f,zy1 f,go_sem]) ⟨by rw[C.o],B.o⟩
theorem rages(a:Option Addr)(len cap:Nat)(ls:List Du)(mo:Int)(w:World)(hr:RowD w a len ls)(hl:len≤maxLen):Calls Tryz.prog 88 #[.slice a len cap,zI mo] w λe w'=>AgePost w ls mo e w':=by
 have a0:=zh (rfault a len cap ls w hr hl);have j:Hid (∀W,zC 47 #[zI mo,zI 0,zI 2400] W λe w'=>e=.returned (.bool (decide (0≤mo∧mo≤2400)))∧w'=W):=λW=>cal.cin mo 0 2400 W;have r:=hr.1;go_enter Tryz.func88,Tryz.ntmps88;go_wp2_with fail;refine a0.o.mono ?_;rintro e w1 ⟨f,rfl,hf,a9⟩;subst a9;have HF:=zh hf;by_cases R:f=0
 ·subst R;have hm:=hf.ok.1 rfl;have Q:=zh hm;have q:=zh r;have ab:len≤8:=by have:=hm.1;omega
  have G:=zh hr;clear hf hm hr hl r;by_cases c:0≤mo∧mo≤2400
  ·rw[decide_eq_true c] at j;have t:=zh c;obtain⟨m,rfl⟩:=Int.eq_ofNat_of_zero_le c.1;have a7:m≤2400:=by omega
   have a1:Hid ((m:Int).toNat=m):=by show _=_;omega
   clear c;go_wp2_with fail;refine(j.o _).mono ?_;rintro e g ⟨rfl,D⟩;subst D;go_wp2_with fail;go_loopw [7,8] (λu z wr=>∃(k:Nat)(V:Value),k≤len∧z=zI (k:Int)∧V=u∧Ld 42 wr g.heap.size V (ageAll (ls.take k) m)∧zB g wr) (λ_ z _=>len-(intOf z).toNat)
   case atStart=>exact⟨0,_,Nat.zero_le _,rfl,rfl,tar.Ld.zero _ _ _,zb⟩
   case round=>
    obtain⟨k,V,hk,rfl,hV,O,J⟩:=hrel;subst hV;have n:=zh J;have a2:=zh O;by_cases C:k<len
    ·have a6:decide ((k:Int)<(len:Int))=true:=by simp;omega
     have B:k<ls.length:=by rw[q.o];exact C
     obtain⟨b,l,rfl,K,hc⟩:=G.o.at (by omega);have c0:wr.cell? ⟨b,l+k*2,none⟩=some (zI (ls.getD k du0).a):=(J.cell (p:=⟨b,l+k*2,none⟩) K).trans (hc k C).1;have c1:wr.cell? ⟨b,l+k*2+1,none⟩=some (zI (ls.getD k du0).b):=(J.cell (p:=⟨b,l+k*2+1,none⟩) K).trans (hc k C).2;have ho:=Q.o.2 k B;have S:Hid (∀W,zC 134 #[.agg #[zI (ls.getD k du0).a,zI (ls.getD k du0).b],zI (m:Int)] W λe w'=>e=.returned (.agg #[zI (growN (ls.getD k du0).b m (ls.getD k du0).a),zI (ls.getD k du0).b])∧zB W w'):=λW=>raged _ _ m W ho.1 ho.2 a7;have a5:=zh (ageAll_take ls m k B);have aa:(ageAll (ls.take k) m).length≤1000000:=by rw[ageAll_len,List.length_take];omega
     clear hc J O ho B;generalize ageAll (ls.take k) m=Z at *;generalize growN (ls.getD k du0).b m (ls.getD k du0).a=d at *;generalize (ls.getD k du0).a=x at *;generalize (ls.getD k du0).b=y at *;go_wp2_with fail;refine(S.o _).mono ?_;rintro e i ⟨rfl,A⟩;have F:=shB n A;have a4:=zh (a2.o.next A);have E:=zyf F (.cells #[zI d,zI y] 42);have HU:Hid (Ld 42 (i.alloc (.cells #[zI d,zI y] 42)) g.heap.size V Z):=a4.o.alloc _;clear A c0 c1;have s:Hid (zB g ((i.alloc (.cells #[zI d,zI y] 42)).alloc (.cells #[zI d,zI y] 42))):=E.o.alloc E.o.size _;have H:Hid (Ld 42 ((i.alloc (.cells #[zI d,zI y] 42)).alloc (.cells #[zI d,zI y] 42)) g.heap.size V Z):=HU.o.alloc _;have X:Hid (((i.alloc (.cells #[zI d,zI y] 42)).alloc (.cells #[zI d,zI y] 42)).cell? ⟨i.heap.size+1,0,none⟩=some (zI d)∧((i.alloc (.cells #[zI d,zI y] 42)).alloc (.cells #[zI d,zI y] 42)).cell? ⟨i.heap.size+1,1,none⟩=some (zI y)):=⟨(Blk.new1 i _ _ _).cell 0,(Blk.new1 i _ _ _).cell 1⟩
     go_wp2_with (first
      |(at_builtin;refine tar.wp_pair debtT rfl _ _ rfl g.heap.size (i.heap.size+1) V Z ⟨d,y⟩ rfl rfl H.o X.o aa s.o.size ?_)
      | fail)
     intro v3 w3 h3 M;have U:Hid (zB g w3):=tar.own_bel H.o M s.o zc s.o.size;have H3:=zh h3;clear h3 M;go_wp2_with fail;go_roundw
     case rel=>exact⟨k+1,v3,by omega,by go_num,by first|rfl|trivial,by rw[a5.o];exact H3.o,U.o⟩
     case measure=>simp[intOf];omega
    ·obtain rfl:k=len:=by omega
     have a6:decide ((k:Int)<(k:Int))=false:=by simp
     have N:ls.take k=ls:=List.take_of_length_le (by rw[q.o];exact zc);rw[N] at O;obtain⟨a3,I,a8,L⟩:=ld_fresh O (ageAll_mays Q.o m);subst a8;have Y:=zh L;have T:Hid (AgeIs ls (m:Int) (ageAll ls m) 0):=.inr (.inr ⟨Q.o,t.o,rfl,by rw[a1.o]⟩);clear J O L N;generalize (ageAll ls m).length=P at *;generalize ageAll ls m=Z at *;go_wp2_with fail;go_ret2;exact⟨a3,P,I,Z,0,rfl,T.o,Y.o,n.o⟩
  ·rw[decide_eq_false c] at j;have t:=zh c;clear c;go_wp2_with fail;refine(j.o _).mono ?_;rintro e g ⟨rfl,D⟩;subst D;go_wp2_with fail;go_ret2;exact⟨none,0,0,[],2,rfl,.inr (.inl ⟨Q.o,t.o,rfl,rfl⟩),fresh_nil _ _,zb⟩
 ·have ac:(f != 0)=true:=by simpa using R
  have HN:Hid (¬ Mays ls):=λh=>R (hf.ok.2 h);clear hf R hr hl;go_wp2_with fail;go_ret2;exact⟨none,0,0,[],f,rfl,.inl ⟨HN.o,HF.o,rfl⟩,fresh_nil _ _,zb⟩
theorem part_split(a b:Int):a/10000*b+a%10000*b/10000=a*b/10000:=by
 have e:a*b=a/10000*b*10000+a%10000*b:=by
  have h:=Int.emod_add_mul_ediv a 10000;have c:a*b=(a%10000+10000*(a/10000))*b:=by rw[h]
  rw[c,Int.add_mul,Int.mul_assoc,Int.mul_comm 10000,Int.add_comm]
 rw[e];generalize a/10000*b=x;generalize a%10000*b=y;omega
theorem rparted(a b:Int)(w:World)(h:(0≤a∧a≤1000000000000)∧0≤b∧b≤10000):
  Calls Tryz.prog 49 #[zI a,zI b] w λe w'=>e=.returned (.tuple #[zI (a*b/10000),zI 0])∧w'=w:=by
 have d:Hid (∀W,zC 47 #[zI a,zI 0,zI 1000000000000] W λe w'=>e=.returned (.bool (decide (0≤a∧a≤1000000000000)))∧w'=W):=λW=>cal.cin a 0 1000000000000 W;have f:Hid (∀W,zC 47 #[zI b,zI 0,zI 10000] W λe w'=>e=.returned (.bool (decide (0≤b∧b≤10000)))∧w'=W):=λW=>cal.cin b 0 10000 W;rw[decide_eq_true h.1] at d;rw[decide_eq_true h.2] at f;obtain⟨⟨k,l⟩,g,i⟩:=h;obtain⟨m,n⟩:=prod_le (a/10000) b 100000000 10000 (by omega) (by omega) g i;obtain⟨p,q⟩:=prod_le (a%10000) b 10000 10000 (by omega) (by omega) g i;rw[← part_split];go_enter Tryz.func49,Tryz.ntmps49;go_wp2_with fail;refine(d.o _).mono ?_;rintro e j ⟨rfl,c⟩;subst c;go_wp2_with fail;refine(f.o _).mono ?_;rintro e j ⟨rfl,c⟩;subst c;go_wp2;go_ret2;exact⟨rfl,rfl⟩
theorem rnopart(a b:Int)(w:World)(h:0≤a∧a≤1000000000000)(hb:¬ (0≤b∧b≤10000)):
  Calls Tryz.prog 49 #[zI a,zI b] w λe w'=>e=.returned (.tuple #[zI 0,zI 2])∧w'=w:=by
 have d:Hid (∀W,zC 47 #[zI a,zI 0,zI 1000000000000] W λe w'=>e=.returned (.bool (decide (0≤a∧a≤1000000000000)))∧w'=W):=λW=>cal.cin a 0 1000000000000 W;have f:Hid (∀W,zC 47 #[zI b,zI 0,zI 10000] W λe w'=>e=.returned (.bool (decide (0≤b∧b≤10000)))∧w'=W):=λW=>cal.cin b 0 10000 W;rw[decide_eq_true h] at d;rw[decide_eq_false hb] at f;clear h hb;go_enter Tryz.func49,Tryz.ntmps49;go_wp2_with fail;refine(d.o _).mono ?_;rintro e g ⟨rfl,c⟩;subst c;go_wp2_with fail;refine(f.o _).mono ?_;rintro e g ⟨rfl,c⟩;subst c;go_wp2;go_ret2;exact⟨rfl,rfl⟩
theorem rshare(t bp:Int)(w:World):Calls Tryz.prog 89 #[zI t,zI bp] w λe w'=>∃s f,e=.returned (.tuple #[zI s,zI f])∧ShareIs t bp s f∧w'=w:=by
 have b:Hid (∀W,zC 47 #[zI t,zI 0,zI 100000000] W λe w'=>e=.returned (.bool (decide (0≤t∧t≤100000000)))∧w'=W):=λW=>cal.cin t 0 100000000 W;by_cases c:0≤t∧t≤100000000
 ·rw[decide_eq_true c] at b;by_cases g:0≤bp∧bp≤10000
  ·have d:Hid (∀W,zC 49 #[zI t,zI bp] W λe w'=>e=.returned (.tuple #[zI (t*bp/10000),zI 0])∧w'=W):=λW=>rparted t bp W ⟨⟨c.1,by omega⟩,g⟩;have i:Hid (TMay t bp):=⟨c,g⟩
   clear c g;go_enter Tryz.func89,Tryz.ntmps89;go_wp2_with fail;refine(b.o _).mono ?_;rintro e j ⟨rfl,a⟩;subst a;go_wp2_with fail;refine(d.o _).mono ?_;rintro e j ⟨rfl,a⟩;subst a;go_wp2_with fail;go_ret2;exact⟨_,_,rfl,.inl ⟨i.o,rfl,rfl⟩,rfl⟩
  ·have d:Hid (∀W,zC 49 #[zI t,zI bp] W λe w'=>e=.returned (.tuple #[zI 0,zI 2])∧w'=W):=λW=>rnopart t bp W ⟨c.1,by omega⟩ g;have i:Hid (¬ TMay t bp):=λh=>g h.2;clear c g;go_enter Tryz.func89,Tryz.ntmps89;go_wp2_with fail;refine(b.o _).mono ?_;rintro e j ⟨rfl,a⟩;subst a;go_wp2_with fail;refine(d.o _).mono ?_;rintro e j ⟨rfl,a⟩;subst a;go_wp2_with fail;go_ret2;exact⟨_,_,rfl,.inr ⟨i.o,rfl,rfl⟩,rfl⟩
 ·rw[decide_eq_false c] at b;have i:Hid (¬ TMay t bp):=λh=>c h.1;clear c;go_enter Tryz.func89,Tryz.ntmps89;go_wp2_with fail;refine(b.o _).mono ?_;rintro e j ⟨rfl,a⟩;subst a;go_wp2_with fail;go_ret2;exact⟨_,_,rfl,.inr ⟨i.o,rfl,rfl⟩,rfl⟩
end deb
namespace tar
open Go.RowKit
theorem stepT:PairT Tryz.prog 214 22:=⟨by kernel_rfl,Tryz.underlying22⟩
theorem steps_any(a:Option Addr)(len cap:Nat)(zs:List Du)(w:World)(h:Came w a len cap zs):
  Calls Tryz.prog 19 #[.slice a len cap] w λe w'=>GaveD 214 w zs e w':=by
 obtain⟨d,q,-,p,-⟩:=h;cases a with
 |none=>
  have m:=q rfl;have l:len=0:=by rcases d.2 with h|⟨b,r,h,_⟩;exact h;cases h
  subst m l;obtain rfl:zs=[]:=List.eq_nil_of_length_eq_zero d.1;have f:∀w:World,(Builtin.append_ #[22,22] 22 #[zS,zS]).run Tryz.prog w=.ok (zS) w:=λw=>by kernel_rfl
  go_enter Tryz.func19,Tryz.ntmps19;go_wp2;go_ret;exact GaveD.mk (Ld.zero _ _ _) zb
 |some x=>
  go_enter Tryz.func19,Tryz.ntmps19
  go_wp2_with (first
   |(at_builtin;refine wp_pairs stepT rfl _ _ rfl w.heap.size x len cap zs rfl rfl d p zc ?_)
   | go_in)
  intro s w' c g;have j:Hid (Ld 214 w' w.heap.size s zs):=c;have i:Hid (zB w w'):=zb.grown g zc (λk n=>by cases n);clear c g;go_wp2;go_ret;exact GaveD.mk j.o i.o
end tar
namespace acc
open tar (Du)
open Go.RowKit
def KcCheck:Prop:=∀(W:World)(t:Tm)(pt:Option Addr)(lt ct:Nat),TCame W t pt lt ct→zC 97 #[t.v pt lt ct] W λe w'=>tar.ErrPost W (TFault t) e w'
end acc
namespace deb
open tar (Du du0 Came RowD Ld ErrPost TwoPost PairT GaveD)
open Go.RowKit
theorem powed(a:Option Addr)(len cap:Nat)(ls:List Du)(w:World)(hr:RowD w a len ls)(hm:Mays ls):Calls Tryz.prog 143 #[.slice a len cap] w λe w'=>e=.returned (zI (sumD ls))∧zB w w':=by
 have c:Hid (ls.length=len):=hr.1;have n:Hid (Mays ls):=hm;have A:len≤8:=by have:=hm.1;have:=hr.1;omega
 have h:Hid (RowD w a len ls):=hr;clear hm hr;go_enter Tryz.func143,Tryz.ntmps143;go_wp2_with fail;go_loopw [3,8] (λv x wr=>∃k:Nat,k≤len∧x=zI (k:Int)∧v=zI (sumK ls k)∧zB w wr) (λ_ x _=>len-(intOf x).toNat)
 case atStart=>exact⟨0,Nat.zero_le _,rfl,rfl,zb⟩
 case round=>
  obtain⟨k,u,rfl,rfl,f⟩:=hrel;have B:=sumK_bd n.o k (by rw[c.o];exact u);have q:Hid (zB w wr):=f;by_cases g:k<len
  ·have m:decide ((k:Int)<(len:Int))=true:=by simp;omega
   obtain⟨b,d,rfl,i,l⟩:=h.o.at (by omega);have c0:wr.cell? ⟨b,d+k*2,none⟩=some (zI (ls.getD k du0).a):=(f.cell (p:=⟨b,d+k*2,none⟩) i).trans (l k g).1;have c1:wr.cell? ⟨b,d+k*2+1,none⟩=some (zI (ls.getD k du0).b):=(f.cell (p:=⟨b,d+k*2+1,none⟩) i).trans (l k g).2;have j:Hid (∀o,zB w (wr.alloc o)):=λo=>f.alloc f.size o;have C:=(n.o.2 k (by rw[c.o];exact g)).1;have r:Hid (sumK ls k+(ls.getD k du0).a=sumK ls (k+1)):=(sumK_next ls k).symm;clear l f;generalize sumK ls k=s at *;generalize (ls.getD k du0).a=x at *;generalize (ls.getD k du0).b=y at *;go_wp2_with fail;go_roundw
   case rel=>exact⟨k+1,by omega,by go_num,by rw[← r.o],j.o _⟩
   case measure=>simp[intOf];omega
  ·obtain rfl:k=len:=by omega
   have m:decide ((k:Int)<(k:Int))=false:=by simp
   have t:Hid (sumK ls k=sumD ls):=by have:=sumK_all ls;rw[c.o] at this;exact this
   generalize sumK ls k=s at *;clear f;go_wp2_with fail;go_ret;exact⟨congrArg (λz=>Ending.returned (Value.int .i64 z)) t.o,q.o⟩
end deb
namespace acc
open tar (Du)
open Go.RowKit
def KcRekey:Prop:=∀(W:World)(x:Ac)(p:Option Addr)(len cap:Nat),ACame W x p len cap→zC 31 #[x.v p len cap] W λe w'=>BPost W (RekeyIs x) e w'
end acc
end Go.Proofs.YtoepgdhiepedeaaGreatDoor
