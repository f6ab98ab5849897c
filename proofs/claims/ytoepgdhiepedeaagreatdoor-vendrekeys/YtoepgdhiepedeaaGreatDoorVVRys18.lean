import Derived.Test.YtoepgdhiepedeaaGreatDoorVVRys13
import Derived.Test.YtoepgdhiepedeaaGreatDoorVVRys17
set_option linter.unusedVariables false
set_option linter.unusedSimpArgs false
set_option maxHeartbeats 4000000
set_option maxRecDepth 100000
namespace Go.Proofs.YtoepgdhiepedeaaGreatDoor
namespace book
open Go.RowKit
def qrB(v:Ev):Bool:=decide (v.kd=1∧v.me=v.me∧v.mo=0∧v.id=0∧v.te=0∧v.de=0∧v.fe=0∧v.pr=0∧v.ch=0∧v.un=0∧v.tg=0∧v.ow=0∧v.bp=0)
theorem qrB_iff(v:Ev):qrB v=true↔(v.kd=1∧v.me=v.me∧v.mo=0∧v.id=0∧v.te=0∧v.de=0∧v.fe=0∧v.pr=0∧v.ch=0∧v.un=0∧v.tg=0∧v.ow=0∧v.bp=0):=by unfold qrB;rw[decide_eq_true_iff]
theorem qr_run(v:Ev):∀wz:World,(Op.equalIn 10000 44 (.agg #[zI v.kd,zI v.me,zI v.mo,zI v.id,zI v.te,zI v.de,zI v.fe,zI v.pr,zI v.ch,zI v.un,zI v.tg,zI v.ow,zI v.bp]) (.agg #[zI 1,zI v.me,zI 0,zI 0,zI 0,zI 0,zI 0,zI 0,zI 0,zI 0,zI 0,zI 0,zI 0])).run Tryz.prog wz=.ok (qrB v) wz:=λwz=>by unfold qrB;rw[show (10000:Nat)=9997+3 from rfl,eqEv]
def qcB(v:Ev):Bool:=decide (v.kd=5∧v.me=v.me∧v.mo=0∧v.id=0∧v.te=0∧v.de=0∧v.fe=0∧v.pr=0∧v.ch=0∧v.un=0∧v.tg=0∧v.ow=v.ow∧v.bp=v.bp)
theorem qcB_iff(v:Ev):qcB v=true↔(v.kd=5∧v.me=v.me∧v.mo=0∧v.id=0∧v.te=0∧v.de=0∧v.fe=0∧v.pr=0∧v.ch=0∧v.un=0∧v.tg=0∧v.ow=v.ow∧v.bp=v.bp):=by unfold qcB;rw[decide_eq_true_iff]
theorem qc_run(v:Ev):∀wz:World,(Op.equalIn 10000 44 (.agg #[zI v.kd,zI v.me,zI v.mo,zI v.id,zI v.te,zI v.de,zI v.fe,zI v.pr,zI v.ch,zI v.un,zI v.tg,zI v.ow,zI v.bp]) (.agg #[zI 5,zI v.me,zI 0,zI 0,zI 0,zI 0,zI 0,zI 0,zI 0,zI 0,zI 0,zI v.ow,zI v.bp])).run Tryz.prog wz=.ok (qcB v) wz:=λwz=>by unfold qcB;rw[show (10000:Nat)=9997+3 from rfl,eqEv]
def qkB(v:Ev):Bool:=decide (v.id=v.id∧v.te=0∧v.de=0∧v.fe=0∧v.pr=0∧v.ch=0∧v.un=0)
theorem qkB_iff(v:Ev):qkB v=true↔(v.id=v.id∧v.te=0∧v.de=0∧v.fe=0∧v.pr=0∧v.ch=0∧v.un=0):=by unfold qkB;rw[decide_eq_true_iff]
theorem qk_run(v:Ev):∀wz:World,(Op.equalIn 10000 33 (.agg #[zI v.id,zI v.te,zI v.de,zI v.fe,zI v.pr,zI v.ch,zI v.un]) (.agg #[zI v.id,zI 0,zI 0,zI 0,zI 0,zI 0,zI 0])).run Tryz.prog wz=.ok (qkB v) wz:=λwz=>by unfold qkB;rw[show (10000:Nat)=9998+2 from rfl,eqBi]
def qgB(v:Ev):Bool:=decide (v.id=v.id∧v.te=0∧v.de=0∧v.fe=0∧v.pr=0∧v.ch=0∧v.un=v.un)
theorem qgB_iff(v:Ev):qgB v=true↔(v.id=v.id∧v.te=0∧v.de=0∧v.fe=0∧v.pr=0∧v.ch=0∧v.un=v.un):=by unfold qgB;rw[decide_eq_true_iff]
theorem qg_run(v:Ev):∀wz:World,(Op.equalIn 10000 33 (.agg #[zI v.id,zI v.te,zI v.de,zI v.fe,zI v.pr,zI v.ch,zI v.un]) (.agg #[zI v.id,zI 0,zI 0,zI 0,zI 0,zI 0,zI v.un])).run Tryz.prog wz=.ok (qgB v) wz:=λwz=>by unfold qgB;rw[show (10000:Nat)=9998+2 from rfl,eqBi]
def qdB(v:Ev):Bool:=decide (v.ow=0∧v.bp=0)
theorem qdB_iff(v:Ev):qdB v=true↔(v.ow=0∧v.bp=0):=by unfold qdB;rw[decide_eq_true_iff]
theorem qd_run(v:Ev):∀wz:World,(Op.equalIn 10000 42 (.agg #[zI v.ow,zI v.bp]) (.agg #[zI 0,zI 0])).run Tryz.prog wz=.ok (qdB v) wz:=λwz=>by unfold qdB;rw[show (10000:Nat)=9998+2 from rfl,eqDe]
def Says(B:Bool)(v:Ev):Prop:=B=true↔EMay v
def MayPost(w:World)(v:Ev)(e:Ending)(w':World):Prop:=∃B:Bool,e=.returned (.bool B)∧Says B v∧zB w w'
theorem rmay(v:Ev)(w:World):Calls Tryz.prog 83 #[v.v] w λe w'=>MayPost w v e w':=by
 unfold Ev.v;have M:Hid (∀W,zC 47 #[zI v.me,zI 0,zI 49] W λe w'=>e=.returned (.bool (decide (0≤v.me∧v.me≤49)))∧w'=W):=λW=>cal.cin v.me 0 49 W;have O:Hid (∀W,zC 47 #[zI v.ow,zI 1,zI 1000000000] W λe w'=>e=.returned (.bool (decide (1≤v.ow∧v.ow≤1000000000)))∧w'=W):=λW=>cal.cin v.ow 1 1000000000 W;have G:Hid (∀W,zC 47 #[zI v.bp,zI 0,zI 10000] W λe w'=>e=.returned (.bool (decide (0≤v.bp∧v.bp≤10000)))∧w'=W):=λW=>cal.cin v.bp 0 10000 W;have L:Hid (∀W,zC 47 #[zI v.kd,zI 2,zI 4] W λe w'=>e=.returned (.bool (decide (2≤v.kd∧v.kd≤4)))∧w'=W):=λW=>cal.cin v.kd 2 4 W;have K:Hid (∀W,zC 47 #[zI v.id,zI 1,zI 1048575] W λe w'=>e=.returned (.bool (decide (1≤v.id∧v.id≤1048575)))∧w'=W):=λW=>cal.cin v.id 1 1048575 W;have R:Hid (∀W,zC 47 #[zI v.tg,zI 0,zI 65535] W λe w'=>e=.returned (.bool (decide (0≤v.tg∧v.tg≤65535)))∧w'=W):=λW=>cal.cin v.tg 0 65535 W;have N:Hid (∀W,zC 47 #[zI v.mo,zI 0,zI 2399] W λe w'=>e=.returned (.bool (decide (0≤v.mo∧v.mo≤2399)))∧w'=W):=λW=>cal.cin v.mo 0 2399 W;have S:Hid (∀W,zC 47 #[zI v.un,zI 1,zI 2097151] W λe w'=>e=.returned (.bool (decide (1≤v.un∧v.un≤2097151)))∧w'=W):=λW=>cal.cin v.un 1 2097151 W;have Q:Hid (∀W,zC 47 #[zI v.te,zI 1,zI 100000000] W λe w'=>e=.returned (.bool (decide (1≤v.te∧v.te≤100000000)))∧w'=W):=λW=>cal.cin v.te 1 100000000 W;have I:Hid (∀W,zC 47 #[zI v.de,zI 0,zI v.te] W λe w'=>e=.returned (.bool (decide (0≤v.de∧v.de≤v.te)))∧w'=W):=λW=>cal.cin v.de 0 v.te W;have J:Hid (∀W,zC 47 #[zI v.fe,zI 0,zI v.te] W λe w'=>e=.returned (.bool (decide (0≤v.fe∧v.fe≤v.te)))∧w'=W):=λW=>cal.cin v.fe 0 v.te W
 have P:Hid (∀W,zC 47 #[zI v.pr,zI 0,zI v.te] W λe w'=>e=.returned (.bool (decide (0≤v.pr∧v.pr≤v.te)))∧w'=W):=λW=>cal.cin v.pr 0 v.te W;have H:Hid (∀W,zC 47 #[zI v.ch,zI 0,zI v.te] W λe w'=>e=.returned (.bool (decide (0≤v.ch∧v.ch≤v.te)))∧w'=W):=λW=>cal.cin v.ch 0 v.te W;have a4:=zh (qr_run v);have a0:=zh (qc_run v);have a3:=zh (qk_run v);have a2:=zh (qg_run v);have a1:=zh (qd_run v);have ac:=zye w #[zI v.kd,zI v.me,zI v.mo,zI v.id,zI v.te,zI v.de,zI v.fe,zI v.pr,zI v.ch,zI v.un,zI v.tg,zI v.ow,zI v.bp] 44;have ab:Hid (zB w (w.alloc (.cells #[zI v.kd,zI v.me,zI v.mo,zI v.id,zI v.te,zI v.de,zI v.fe,zI v.pr,zI v.ch,zI v.un,zI v.tg,zI v.ow,zI v.bp] 44))):=zb.alloc zc _;have k0:(w.alloc (.cells #[zI v.kd,zI v.me,zI v.mo,zI v.id,zI v.te,zI v.de,zI v.fe,zI v.pr,zI v.ch,zI v.un,zI v.tg,zI v.ow,zI v.bp] 44)).cell? ⟨w.heap.size,3,none⟩=some (zI v.id):=(Blk.new w _ _).cell 3;have k1:(w.alloc (.cells #[zI v.kd,zI v.me,zI v.mo,zI v.id,zI v.te,zI v.de,zI v.fe,zI v.pr,zI v.ch,zI v.un,zI v.tg,zI v.ow,zI v.bp] 44)).cell? ⟨w.heap.size,4,none⟩=some (zI v.te):=(Blk.new w _ _).cell 4;have k2:(w.alloc (.cells #[zI v.kd,zI v.me,zI v.mo,zI v.id,zI v.te,zI v.de,zI v.fe,zI v.pr,zI v.ch,zI v.un,zI v.tg,zI v.ow,zI v.bp] 44)).cell? ⟨w.heap.size,5,none⟩=some (zI v.de):=(Blk.new w _ _).cell 5;have k3:(w.alloc (.cells #[zI v.kd,zI v.me,zI v.mo,zI v.id,zI v.te,zI v.de,zI v.fe,zI v.pr,zI v.ch,zI v.un,zI v.tg,zI v.ow,zI v.bp] 44)).cell? ⟨w.heap.size,6,none⟩=some (zI v.fe):=(Blk.new w _ _).cell 6;have k4:(w.alloc (.cells #[zI v.kd,zI v.me,zI v.mo,zI v.id,zI v.te,zI v.de,zI v.fe,zI v.pr,zI v.ch,zI v.un,zI v.tg,zI v.ow,zI v.bp] 44)).cell? ⟨w.heap.size,7,none⟩=some (zI v.pr):=(Blk.new w _ _).cell 7;have k5:(w.alloc (.cells #[zI v.kd,zI v.me,zI v.mo,zI v.id,zI v.te,zI v.de,zI v.fe,zI v.pr,zI v.ch,zI v.un,zI v.tg,zI v.ow,zI v.bp] 44)).cell? ⟨w.heap.size,8,none⟩=some (zI v.ch):=(Blk.new w _ _).cell 8
 have k6:(w.alloc (.cells #[zI v.kd,zI v.me,zI v.mo,zI v.id,zI v.te,zI v.de,zI v.fe,zI v.pr,zI v.ch,zI v.un,zI v.tg,zI v.ow,zI v.bp] 44)).cell? ⟨w.heap.size,9,none⟩=some (zI v.un):=(Blk.new w _ _).cell 9;generalize ad:(w.alloc (.cells #[zI v.kd,zI v.me,zI v.mo,zI v.id,zI v.te,zI v.de,zI v.fe,zI v.pr,zI v.ch,zI v.un,zI v.tg,zI v.ow,zI v.bp] 44))=W0 at *;have Y:Hid ((w.alloc (.cells #[zI v.kd,zI v.me,zI v.mo,zI v.id,zI v.te,zI v.de,zI v.fe,zI v.pr,zI v.ch,zI v.un,zI v.tg,zI v.ow,zI v.bp] 44))=W0):=ad;clear ad;go_enter Tryz.func83,Tryz.ntmps83;go_upto_region 1 with fail
 rw[Y.o];clear Y;obtain⟨W1,Y,r,r,-⟩:=sh1 W0 #[zI v.id,zI v.te,zI v.de,zI v.fe,zI v.pr,zI v.ch,zI v.un] 33;have p:=shN ac r.o;have c:=shB ab r.o;go_upto_region 2 with fail
 rw[Y.o];clear Y r;generalize W0.heap.size=gb at *;clear k0 k1 k2 k3 k4 k5 k6 ac ab;have aI:=zy0 p;have aJ:=zy1 p;have aK:=zy2 p;have aH:=zy3 p;have aN:=zy4 p;have aF:=zy5 p;have aG:=zy6 p;have aM:=zy7 p;have aE:=zy8 p;have aP:=zy9 p;have aO:=zy10 p;have aL:=zy11 p;have aD:=zy12 p;have az:=zy0 r;have aB:=zy1 r;have ax:=zy2 r;have ay:=zy3 r;have aA:=zy4 r;have aw:=zy5 r;have aC:=zy6 r;by_cases ak:0≤v.me∧v.me≤49
 ·skip
  rw[decide_eq_true ak] at M;go_wp2_with fail;refine(M.o _).mono ?_;rintro e a ⟨rfl,f⟩;subst a;by_cases T:v.kd=1
  ·have n1:(v.kd==1)=true:=by simpa using T
   have d:=zh T;clear T;rcases Bool.eq_false_or_eq_true (qrB v) with A|A
   ·skip
    have F:=qrB_iff v;rw[A] at F;have qr:∀a:World,(Op.equalIn 10000 44 (.agg #[zI v.kd,zI v.me,zI v.mo,zI v.id,zI v.te,zI v.de,zI v.fe,zI v.pr,zI v.ch,zI v.un,zI v.tg,zI v.ow,zI v.bp]) (.agg #[zI 1,zI v.me,zI 0,zI 0,zI 0,zI 0,zI 0,zI 0,zI 0,zI 0,zI 0,zI 0,zI 0])).run Tryz.prog a=.ok true a:=λa=>(a4.o a).trans (congrArg (λb=>Result.ok b a) A);clear a4;have a9:Hid ((v.kd=1∧v.me=v.me∧v.mo=0∧v.id=0∧v.te=0∧v.de=0∧v.fe=0∧v.pr=0∧v.ch=0∧v.un=0∧v.tg=0∧v.ow=0∧v.bp=0)):=F.1 rfl;clear A F
    have g:Hid (Says true v):=by
     show (true=true)↔_;have j:=d.o;have av:=a9.o;simp only[true_iff];unfold EMay
     first|omega|(constructor<;>intro h<;>first|omega|(exfalso;omega)|cases h)
    go_wp2_with (first|(refine wp_eqE (by rfl) 44 _ _ _ rfl #[zI v.kd,zI v.me,zI v.mo,zI v.id,zI v.te,zI v.de,zI v.fe,zI v.pr,zI v.ch,zI v.un,zI v.tg,zI v.ow,zI v.bp] #[zI 1,zI v.me,zI 0,zI 0,zI 0,zI 0,zI 0,zI 0,zI 0,zI 0,zI 0,zI 0,zI 0] rfl rfl (by kernel_rfl) true (qr _) _ rfl ?_)|fail)
    all_goals first
     |(rename_i q1 q2;exact absurd q1 (by simp[undef]))
     |(go_ret;exact⟨_,rfl,g.o,c.o⟩)
   ·skip
    have F:=qrB_iff v;rw[A] at F;have qr:∀a:World,(Op.equalIn 10000 44 (.agg #[zI v.kd,zI v.me,zI v.mo,zI v.id,zI v.te,zI v.de,zI v.fe,zI v.pr,zI v.ch,zI v.un,zI v.tg,zI v.ow,zI v.bp]) (.agg #[zI 1,zI v.me,zI 0,zI 0,zI 0,zI 0,zI 0,zI 0,zI 0,zI 0,zI 0,zI 0,zI 0])).run Tryz.prog a=.ok false a:=λa=>(a4.o a).trans (congrArg (λb=>Result.ok b a) A);clear a4;have a9:Hid (¬ (v.kd=1∧v.me=v.me∧v.mo=0∧v.id=0∧v.te=0∧v.de=0∧v.fe=0∧v.pr=0∧v.ch=0∧v.un=0∧v.tg=0∧v.ow=0∧v.bp=0)):=λhq=>absurd (F.2 hq) (by decide);clear A F
    have g:Hid (Says false v):=by
     show (false=true)↔_;have j:=d.o;have av:=a9.o;simp only[Bool.false_eq_true,false_iff];unfold EMay
     first|omega|(constructor<;>intro h<;>first|omega|(exfalso;omega)|cases h)
    go_wp2_with (first|(refine wp_eqE (by rfl) 44 _ _ _ rfl #[zI v.kd,zI v.me,zI v.mo,zI v.id,zI v.te,zI v.de,zI v.fe,zI v.pr,zI v.ch,zI v.un,zI v.tg,zI v.ow,zI v.bp] #[zI 1,zI v.me,zI 0,zI 0,zI 0,zI 0,zI 0,zI 0,zI 0,zI 0,zI 0,zI 0,zI 0] rfl rfl (by kernel_rfl) false (qr _) _ rfl ?_)|fail)
    all_goals first
     |(rename_i q1 q2;exact absurd q1 (by simp[undef]))
     |(go_ret;exact⟨_,rfl,g.o,c.o⟩)
  ·have n1:(v.kd==1)=false:=by simpa using T
   have d:=zh T;clear T;by_cases X:v.kd=5
   ·have n5:(v.kd==5)=true:=by simpa using X
    have i:=zh X;clear X;rcases Bool.eq_false_or_eq_true (qcB v) with u|u
    ·skip
     have B:=qcB_iff v;rw[u] at B;have qc:∀a:World,(Op.equalIn 10000 44 (.agg #[zI v.kd,zI v.me,zI v.mo,zI v.id,zI v.te,zI v.de,zI v.fe,zI v.pr,zI v.ch,zI v.un,zI v.tg,zI v.ow,zI v.bp]) (.agg #[zI 5,zI v.me,zI 0,zI 0,zI 0,zI 0,zI 0,zI 0,zI 0,zI 0,zI 0,zI v.ow,zI v.bp])).run Tryz.prog a=.ok true a:=λa=>(a0.o a).trans (congrArg (λb=>Result.ok b a) u);clear a0;have Z:Hid ((v.kd=5∧v.me=v.me∧v.mo=0∧v.id=0∧v.te=0∧v.de=0∧v.fe=0∧v.pr=0∧v.ch=0∧v.un=0∧v.tg=0∧v.ow=v.ow∧v.bp=v.bp)):=B.1 rfl;clear u B;by_cases am:1≤v.ow∧v.ow≤1000000000
     ·skip
      rw[decide_eq_true am] at O;go_wp2_with (first|(refine wp_eqE (by rfl) 44 _ _ _ rfl #[zI v.kd,zI v.me,zI v.mo,zI v.id,zI v.te,zI v.de,zI v.fe,zI v.pr,zI v.ch,zI v.un,zI v.tg,zI v.ow,zI v.bp] #[zI 5,zI v.me,zI 0,zI 0,zI 0,zI 0,zI 0,zI 0,zI 0,zI 0,zI 0,zI v.ow,zI v.bp] rfl rfl (by kernel_rfl) true (qc _) _ rfl ?_)|fail)
      refine(O.o _).mono ?_;rintro e a ⟨rfl,f⟩;subst a;by_cases ae:0≤v.bp∧v.bp≤10000
      ·skip
       rw[decide_eq_true ae] at G;go_wp2_with (first|(refine wp_eqE (by rfl) 44 _ _ _ rfl #[zI v.kd,zI v.me,zI v.mo,zI v.id,zI v.te,zI v.de,zI v.fe,zI v.pr,zI v.ch,zI v.un,zI v.tg,zI v.ow,zI v.bp] #[zI 5,zI v.me,zI 0,zI 0,zI 0,zI 0,zI 0,zI 0,zI 0,zI 0,zI 0,zI v.ow,zI v.bp] rfl rfl (by kernel_rfl) true (qc _) _ rfl ?_)|fail)
       refine(G.o _).mono ?_;rintro e a ⟨rfl,f⟩;subst a
       have g:Hid (Says true v):=by
        show (true=true)↔_;have j:=d.o;have k:=i.o;have aa:=Z.o;simp only[true_iff];unfold EMay
        first|omega|(constructor<;>intro h<;>first|omega|(exfalso;omega)|cases h)
       go_wp2_with (first|(refine wp_eqE (by rfl) 44 _ _ _ rfl #[zI v.kd,zI v.me,zI v.mo,zI v.id,zI v.te,zI v.de,zI v.fe,zI v.pr,zI v.ch,zI v.un,zI v.tg,zI v.ow,zI v.bp] #[zI 5,zI v.me,zI 0,zI 0,zI 0,zI 0,zI 0,zI 0,zI 0,zI 0,zI 0,zI v.ow,zI v.bp] rfl rfl (by kernel_rfl) true (qc _) _ rfl ?_)|fail)
       all_goals first
        |(rename_i q1 q2;exact absurd q1 (by simp[undef]))
        |(go_ret;exact⟨_,rfl,g.o,c.o⟩)
      ·skip
       have g:Hid (Says false v):=by
        show (false=true)↔_;have j:=d.o;have k:=i.o;have aa:=Z.o;simp only[Bool.false_eq_true,false_iff];unfold EMay
        first|omega|(constructor<;>intro h<;>first|omega|(exfalso;omega)|cases h)
       rw[decide_eq_false ae] at G;go_wp2_with (first|(refine wp_eqE (by rfl) 44 _ _ _ rfl #[zI v.kd,zI v.me,zI v.mo,zI v.id,zI v.te,zI v.de,zI v.fe,zI v.pr,zI v.ch,zI v.un,zI v.tg,zI v.ow,zI v.bp] #[zI 5,zI v.me,zI 0,zI 0,zI 0,zI 0,zI 0,zI 0,zI 0,zI 0,zI 0,zI v.ow,zI v.bp] rfl rfl (by kernel_rfl) true (qc _) _ rfl ?_)|fail)
       refine(G.o _).mono ?_;rintro e a ⟨rfl,f⟩;subst a;go_wp2_with (first|(refine wp_eqE (by rfl) 44 _ _ _ rfl #[zI v.kd,zI v.me,zI v.mo,zI v.id,zI v.te,zI v.de,zI v.fe,zI v.pr,zI v.ch,zI v.un,zI v.tg,zI v.ow,zI v.bp] #[zI 5,zI v.me,zI 0,zI 0,zI 0,zI 0,zI 0,zI 0,zI 0,zI 0,zI 0,zI v.ow,zI v.bp] rfl rfl (by kernel_rfl) true (qc _) _ rfl ?_)|fail)
       all_goals first
        |(rename_i q1 q2;exact absurd q1 (by simp[undef]))
        |(go_ret;exact⟨_,rfl,g.o,c.o⟩)
     ·skip
      have g:Hid (Says false v):=by
       show (false=true)↔_;have j:=d.o;have k:=i.o;have aa:=Z.o;simp only[Bool.false_eq_true,false_iff];unfold EMay
       first|omega|(constructor<;>intro h<;>first|omega|(exfalso;omega)|cases h)
      rw[decide_eq_false am] at O;go_wp2_with (first|(refine wp_eqE (by rfl) 44 _ _ _ rfl #[zI v.kd,zI v.me,zI v.mo,zI v.id,zI v.te,zI v.de,zI v.fe,zI v.pr,zI v.ch,zI v.un,zI v.tg,zI v.ow,zI v.bp] #[zI 5,zI v.me,zI 0,zI 0,zI 0,zI 0,zI 0,zI 0,zI 0,zI 0,zI 0,zI v.ow,zI v.bp] rfl rfl (by kernel_rfl) true (qc _) _ rfl ?_)|fail)
      refine(O.o _).mono ?_;rintro e a ⟨rfl,f⟩;subst a;go_wp2_with (first|(refine wp_eqE (by rfl) 44 _ _ _ rfl #[zI v.kd,zI v.me,zI v.mo,zI v.id,zI v.te,zI v.de,zI v.fe,zI v.pr,zI v.ch,zI v.un,zI v.tg,zI v.ow,zI v.bp] #[zI 5,zI v.me,zI 0,zI 0,zI 0,zI 0,zI 0,zI 0,zI 0,zI 0,zI 0,zI v.ow,zI v.bp] rfl rfl (by kernel_rfl) true (qc _) _ rfl ?_)|fail)
      all_goals first
       |(rename_i q1 q2;exact absurd q1 (by simp[undef]))
       |(go_ret;exact⟨_,rfl,g.o,c.o⟩)
    ·skip
     have B:=qcB_iff v;rw[u] at B;have qc:∀a:World,(Op.equalIn 10000 44 (.agg #[zI v.kd,zI v.me,zI v.mo,zI v.id,zI v.te,zI v.de,zI v.fe,zI v.pr,zI v.ch,zI v.un,zI v.tg,zI v.ow,zI v.bp]) (.agg #[zI 5,zI v.me,zI 0,zI 0,zI 0,zI 0,zI 0,zI 0,zI 0,zI 0,zI 0,zI v.ow,zI v.bp])).run Tryz.prog a=.ok false a:=λa=>(a0.o a).trans (congrArg (λb=>Result.ok b a) u);clear a0;have Z:Hid (¬ (v.kd=5∧v.me=v.me∧v.mo=0∧v.id=0∧v.te=0∧v.de=0∧v.fe=0∧v.pr=0∧v.ch=0∧v.un=0∧v.tg=0∧v.ow=v.ow∧v.bp=v.bp)):=λhq=>absurd (B.2 hq) (by decide);clear u B
     have g:Hid (Says false v):=by
      show (false=true)↔_;have j:=d.o;have k:=i.o;have aa:=Z.o;simp only[Bool.false_eq_true,false_iff];unfold EMay
      first|omega|(constructor<;>intro h<;>first|omega|(exfalso;omega)|cases h)
     go_wp2_with (first|(refine wp_eqE (by rfl) 44 _ _ _ rfl #[zI v.kd,zI v.me,zI v.mo,zI v.id,zI v.te,zI v.de,zI v.fe,zI v.pr,zI v.ch,zI v.un,zI v.tg,zI v.ow,zI v.bp] #[zI 5,zI v.me,zI 0,zI 0,zI 0,zI 0,zI 0,zI 0,zI 0,zI 0,zI 0,zI v.ow,zI v.bp] rfl rfl (by kernel_rfl) false (qc _) _ rfl ?_)|fail)
     all_goals first
      |(rename_i q1 q2;exact absurd q1 (by simp[undef]))
      |(go_ret;exact⟨_,rfl,g.o,c.o⟩)
   ·have n5:(v.kd==5)=false:=by simpa using X
    have i:=zh X;clear X;by_cases aj:2≤v.kd∧v.kd≤4
    ·skip
     rw[decide_eq_true aj] at L;go_wp2_with fail;refine(L.o _).mono ?_;rintro e a ⟨rfl,f⟩;subst a;by_cases ai:1≤v.id∧v.id≤1048575
     ·skip
      rw[decide_eq_true ai] at K;go_wp2_with fail;refine(K.o _).mono ?_;rintro e a ⟨rfl,f⟩;subst a;by_cases ap:0≤v.tg∧v.tg≤65535
      ·skip
       rw[decide_eq_true ap] at R;go_wp2_with fail;refine(R.o _).mono ?_;rintro e a ⟨rfl,f⟩;subst a;rcases Bool.eq_false_or_eq_true (qdB v) with x|x
       ·skip
        have C:=qdB_iff v;rw[x] at C;have qd:∀a:World,(Op.equalIn 10000 42 (.agg #[zI v.ow,zI v.bp]) (.agg #[zI 0,zI 0])).run Tryz.prog a=.ok true a:=λa=>(a1.o a).trans (congrArg (λb=>Result.ok b a) x);clear a1;have l:Hid ((v.ow=0∧v.bp=0)):=C.1 rfl;clear x C;by_cases V:v.kd=4
        ·have n4:(v.kd==4)=true:=by simpa using V
         have m:=zh V;clear V;by_cases a5:v.mo=0
         ·have n0:(v.mo==0)=true:=by simpa using a5
          have Pm:=zh a5;clear a5;rcases Bool.eq_false_or_eq_true (qkB v) with z|z
          ·skip
           have E:=qkB_iff v;rw[z] at E;have qk:∀a:World,(Op.equalIn 10000 33 (.agg #[zI v.id,zI v.te,zI v.de,zI v.fe,zI v.pr,zI v.ch,zI v.un]) (.agg #[zI v.id,zI 0,zI 0,zI 0,zI 0,zI 0,zI 0])).run Tryz.prog a=.ok true a:=λa=>(a3.o a).trans (congrArg (λb=>Result.ok b a) z);clear a3;have a8:Hid ((v.id=v.id∧v.te=0∧v.de=0∧v.fe=0∧v.pr=0∧v.ch=0∧v.un=0)):=E.1 rfl;clear z E
           have g:Hid (Says true v):=by
            show (true=true)↔_;have j:=d.o;have k:=i.o;have n:=l.o;have q:=m.o;have zm:=Pm.o;have au:=a8.o;simp only[true_iff];unfold EMay
            first|omega|(constructor<;>intro h<;>first|omega|(exfalso;omega)|cases h)
           go_wp2_with fail
           all_goals first
            |(rename_i q1 q2;exact absurd q1 (by simp[undef]))
            |(go_ret;exact⟨_,rfl,g.o,c.o⟩)
          ·skip
           have E:=qkB_iff v;rw[z] at E;have qk:∀a:World,(Op.equalIn 10000 33 (.agg #[zI v.id,zI v.te,zI v.de,zI v.fe,zI v.pr,zI v.ch,zI v.un]) (.agg #[zI v.id,zI 0,zI 0,zI 0,zI 0,zI 0,zI 0])).run Tryz.prog a=.ok false a:=λa=>(a3.o a).trans (congrArg (λb=>Result.ok b a) z);clear a3;have a8:Hid (¬ (v.id=v.id∧v.te=0∧v.de=0∧v.fe=0∧v.pr=0∧v.ch=0∧v.un=0)):=λhq=>absurd (E.2 hq) (by decide);clear z E
           have g:Hid (Says false v):=by
            show (false=true)↔_;have j:=d.o;have k:=i.o;have n:=l.o;have q:=m.o;have zm:=Pm.o;have au:=a8.o;simp only[Bool.false_eq_true,false_iff];unfold EMay
            first|omega|(constructor<;>intro h<;>first|omega|(exfalso;omega)|cases h)
           go_wp2_with fail
           all_goals first
            |(rename_i q1 q2;exact absurd q1 (by simp[undef]))
            |(go_ret;exact⟨_,rfl,g.o,c.o⟩)
         ·have n0:(v.mo==0)=false:=by simpa using a5
          have g:Hid (Says false v):=by
           show (false=true)↔_;have j:=d.o;have k:=i.o;have n:=l.o;have q:=m.o;simp only[Bool.false_eq_true,false_iff];unfold EMay
           first|omega|(constructor<;>intro h<;>first|omega|(exfalso;omega)|cases h)
          go_wp2_with fail
          all_goals first
           |(rename_i q1 q2;exact absurd q1 (by simp[undef]))
           |(go_ret;exact⟨_,rfl,g.o,c.o⟩)
        ·have n4:(v.kd==4)=false:=by simpa using V
         have m:=zh V;clear V;by_cases al:0≤v.mo∧v.mo≤2399
         ·skip
          rw[decide_eq_true al] at N;go_wp2_with fail;refine(N.o _).mono ?_;rintro e a ⟨rfl,f⟩;subst a;by_cases aq:1≤v.un∧v.un≤2097151
          ·skip
           rw[decide_eq_true aq] at S;go_wp2_with fail;refine(S.o _).mono ?_;rintro e a ⟨rfl,f⟩;subst a;by_cases U:v.kd=3
           ·have n3:(v.kd==3)=true:=by simpa using U
            have s:=zh U;clear U;rcases Bool.eq_false_or_eq_true (qgB v) with y|y
            ·skip
             have D:=qgB_iff v;rw[y] at D;have qg:∀a:World,(Op.equalIn 10000 33 (.agg #[zI v.id,zI v.te,zI v.de,zI v.fe,zI v.pr,zI v.ch,zI v.un]) (.agg #[zI v.id,zI 0,zI 0,zI 0,zI 0,zI 0,zI v.un])).run Tryz.prog a=.ok true a:=λa=>(a2.o a).trans (congrArg (λb=>Result.ok b a) y);clear a2;have a7:Hid ((v.id=v.id∧v.te=0∧v.de=0∧v.fe=0∧v.pr=0∧v.ch=0∧v.un=v.un)):=D.1 rfl;clear y D
             have g:Hid (Says true v):=by
              show (true=true)↔_;have j:=d.o;have k:=i.o;have n:=l.o;have q:=m.o;have t:=s.o;have ar:=a7.o;simp only[true_iff];unfold EMay
              first|omega|(constructor<;>intro h<;>first|omega|(exfalso;omega)|cases h)
             go_wp2_with fail
             all_goals first
              |(rename_i q1 q2;exact absurd q1 (by simp[undef]))
              |(go_ret;exact⟨_,rfl,g.o,c.o⟩)
            ·skip
             have D:=qgB_iff v;rw[y] at D;have qg:∀a:World,(Op.equalIn 10000 33 (.agg #[zI v.id,zI v.te,zI v.de,zI v.fe,zI v.pr,zI v.ch,zI v.un]) (.agg #[zI v.id,zI 0,zI 0,zI 0,zI 0,zI 0,zI v.un])).run Tryz.prog a=.ok false a:=λa=>(a2.o a).trans (congrArg (λb=>Result.ok b a) y);clear a2;have a7:Hid (¬ (v.id=v.id∧v.te=0∧v.de=0∧v.fe=0∧v.pr=0∧v.ch=0∧v.un=v.un)):=λhq=>absurd (D.2 hq) (by decide);clear y D
             have g:Hid (Says false v):=by
              show (false=true)↔_;have j:=d.o;have k:=i.o;have n:=l.o;have q:=m.o;have t:=s.o;have ar:=a7.o;simp only[Bool.false_eq_true,false_iff];unfold EMay
              first|omega|(constructor<;>intro h<;>first|omega|(exfalso;omega)|cases h)
             go_wp2_with fail
             all_goals first
              |(rename_i q1 q2;exact absurd q1 (by simp[undef]))
              |(go_ret;exact⟨_,rfl,g.o,c.o⟩)
           ·have n3:(v.kd==3)=false:=by simpa using U
            have s:=zh U;clear U;by_cases ao:1≤v.te∧v.te≤100000000
            ·skip
             rw[decide_eq_true ao] at Q;go_wp2_with fail;refine(Q.o _).mono ?_;rintro e a ⟨rfl,f⟩;subst a;by_cases ag:0≤v.de∧v.de≤v.te
             ·skip
              rw[decide_eq_true ag] at I;go_wp2_with fail;refine(I.o _).mono ?_;rintro e a ⟨rfl,f⟩;subst a;by_cases ah:0≤v.fe∧v.fe≤v.te
              ·skip
               rw[decide_eq_true ah] at J;go_wp2_with fail;refine(J.o _).mono ?_;rintro e a ⟨rfl,f⟩;subst a;by_cases an:0≤v.pr∧v.pr≤v.te
               ·skip
                rw[decide_eq_true an] at P;go_wp2_with fail;refine(P.o _).mono ?_;rintro e a ⟨rfl,f⟩;subst a;by_cases af:0≤v.ch∧v.ch≤v.te
                ·skip
                 rw[decide_eq_true af] at H;go_wp2_with fail;refine(H.o _).mono ?_;rintro e a ⟨rfl,f⟩;subst a;by_cases a6:v.de+v.fe+v.pr+v.ch=v.te
                 ·have n9:(v.de+v.fe+v.pr+v.ch==v.te)=true:=by simpa using a6
                  have g:Hid (Says true v):=by
                   show (true=true)↔_;have j:=d.o;have k:=i.o;have n:=l.o;have q:=m.o;have t:=s.o;simp only[true_iff];unfold EMay
                   first|omega|(constructor<;>intro h<;>first|omega|(exfalso;omega)|cases h)
                  clear a6;go_wp2_with fail
                  all_goals first
                   |(rename_i q1 q2;exact absurd q1 (by simp[undef]))
                   |(go_ret;exact⟨_,rfl,g.o,c.o⟩)
                 ·have n9:(v.de+v.fe+v.pr+v.ch==v.te)=false:=by simpa using a6
                  have g:Hid (Says false v):=by
                   show (false=true)↔_;have j:=d.o;have k:=i.o;have n:=l.o;have q:=m.o;have t:=s.o;simp only[Bool.false_eq_true,false_iff];unfold EMay
                   first|omega|(constructor<;>intro h<;>first|omega|(exfalso;omega)|cases h)
                  clear a6;go_wp2_with fail
                  all_goals first
                   |(rename_i q1 q2;exact absurd q1 (by simp[undef]))
                   |(go_ret;exact⟨_,rfl,g.o,c.o⟩)
                ·skip
                 have g:Hid (Says false v):=by
                  show (false=true)↔_;have j:=d.o;have k:=i.o;have n:=l.o;have q:=m.o;have t:=s.o;simp only[Bool.false_eq_true,false_iff];unfold EMay
                  first|omega|(constructor<;>intro h<;>first|omega|(exfalso;omega)|cases h)
                 rw[decide_eq_false af] at H;go_wp2_with fail;refine(H.o _).mono ?_;rintro e a ⟨rfl,f⟩;subst a;go_wp2_with fail
                 all_goals first
                  |(rename_i q1 q2;exact absurd q1 (by simp[undef]))
                  |(go_ret;exact⟨_,rfl,g.o,c.o⟩)
               ·skip
                have g:Hid (Says false v):=by
                 show (false=true)↔_;have j:=d.o;have k:=i.o;have n:=l.o;have q:=m.o;have t:=s.o;simp only[Bool.false_eq_true,false_iff];unfold EMay
                 first|omega|(constructor<;>intro h<;>first|omega|(exfalso;omega)|cases h)
                rw[decide_eq_false an] at P;go_wp2_with fail;refine(P.o _).mono ?_;rintro e a ⟨rfl,f⟩;subst a;go_wp2_with fail
                all_goals first
                 |(rename_i q1 q2;exact absurd q1 (by simp[undef]))
                 |(go_ret;exact⟨_,rfl,g.o,c.o⟩)
              ·skip
               have g:Hid (Says false v):=by
                show (false=true)↔_;have j:=d.o;have k:=i.o;have n:=l.o;have q:=m.o;have t:=s.o;simp only[Bool.false_eq_true,false_iff];unfold EMay
                first|omega|(constructor<;>intro h<;>first|omega|(exfalso;omega)|cases h)
               rw[decide_eq_false ah] at J;go_wp2_with fail;refine(J.o _).mono ?_;rintro e a ⟨rfl,f⟩;subst a;go_wp2_with fail
               all_goals first
                |(rename_i q1 q2;exact absurd q1 (by simp[undef]))
                |(go_ret;exact⟨_,rfl,g.o,c.o⟩)
             ·skip
              have g:Hid (Says false v):=by
               show (false=true)↔_;have j:=d.o;have k:=i.o;have n:=l.o;have q:=m.o;have t:=s.o;simp only[Bool.false_eq_true,false_iff];unfold EMay
               first|omega|(constructor<;>intro h<;>first|omega|(exfalso;omega)|cases h)
              rw[decide_eq_false ag] at I;go_wp2_with fail;refine(I.o _).mono ?_;rintro e a ⟨rfl,f⟩;subst a;go_wp2_with fail
              all_goals first
               |(rename_i q1 q2;exact absurd q1 (by simp[undef]))
               |(go_ret;exact⟨_,rfl,g.o,c.o⟩)
            ·skip
             have g:Hid (Says false v):=by
              show (false=true)↔_;have j:=d.o;have k:=i.o;have n:=l.o;have q:=m.o;have t:=s.o;simp only[Bool.false_eq_true,false_iff];unfold EMay
              first|omega|(constructor<;>intro h<;>first|omega|(exfalso;omega)|cases h)
             rw[decide_eq_false ao] at Q;go_wp2_with fail;refine(Q.o _).mono ?_;rintro e a ⟨rfl,f⟩;subst a;go_wp2_with fail
             all_goals first
              |(rename_i q1 q2;exact absurd q1 (by simp[undef]))
              |(go_ret;exact⟨_,rfl,g.o,c.o⟩)
          ·skip
           have g:Hid (Says false v):=by
            show (false=true)↔_;have j:=d.o;have k:=i.o;have n:=l.o;have q:=m.o;simp only[Bool.false_eq_true,false_iff];unfold EMay
            first|omega|(constructor<;>intro h<;>first|omega|(exfalso;omega)|cases h)
           rw[decide_eq_false aq] at S;go_wp2_with fail;refine(S.o _).mono ?_;rintro e a ⟨rfl,f⟩;subst a;go_wp2_with fail
           all_goals first
            |(rename_i q1 q2;exact absurd q1 (by simp[undef]))
            |(go_ret;exact⟨_,rfl,g.o,c.o⟩)
         ·skip
          have g:Hid (Says false v):=by
           show (false=true)↔_;have j:=d.o;have k:=i.o;have n:=l.o;have q:=m.o;simp only[Bool.false_eq_true,false_iff];unfold EMay
           first|omega|(constructor<;>intro h<;>first|omega|(exfalso;omega)|cases h)
          rw[decide_eq_false al] at N;go_wp2_with fail;refine(N.o _).mono ?_;rintro e a ⟨rfl,f⟩;subst a;go_wp2_with fail
          all_goals first
           |(rename_i q1 q2;exact absurd q1 (by simp[undef]))
           |(go_ret;exact⟨_,rfl,g.o,c.o⟩)
       ·skip
        have C:=qdB_iff v;rw[x] at C;have qd:∀a:World,(Op.equalIn 10000 42 (.agg #[zI v.ow,zI v.bp]) (.agg #[zI 0,zI 0])).run Tryz.prog a=.ok false a:=λa=>(a1.o a).trans (congrArg (λb=>Result.ok b a) x);clear a1;have l:Hid (¬ (v.ow=0∧v.bp=0)):=λhq=>absurd (C.2 hq) (by decide);clear x C
        have g:Hid (Says false v):=by
         show (false=true)↔_;have j:=d.o;have k:=i.o;have n:=l.o;simp only[Bool.false_eq_true,false_iff];unfold EMay
         first|omega|(constructor<;>intro h<;>first|omega|(exfalso;omega)|cases h)
        go_wp2_with fail
        all_goals first
         |(rename_i q1 q2;exact absurd q1 (by simp[undef]))
         |(go_ret;exact⟨_,rfl,g.o,c.o⟩)
      ·skip
       have g:Hid (Says false v):=by
        show (false=true)↔_;have j:=d.o;have k:=i.o;simp only[Bool.false_eq_true,false_iff];unfold EMay
        first|omega|(constructor<;>intro h<;>first|omega|(exfalso;omega)|cases h)
       rw[decide_eq_false ap] at R;go_wp2_with fail;refine(R.o _).mono ?_;rintro e a ⟨rfl,f⟩;subst a;go_wp2_with fail
       all_goals first
        |(rename_i q1 q2;exact absurd q1 (by simp[undef]))
        |(go_ret;exact⟨_,rfl,g.o,c.o⟩)
     ·skip
      have g:Hid (Says false v):=by
       show (false=true)↔_;have j:=d.o;have k:=i.o;simp only[Bool.false_eq_true,false_iff];unfold EMay
       first|omega|(constructor<;>intro h<;>first|omega|(exfalso;omega)|cases h)
      rw[decide_eq_false ai] at K;go_wp2_with fail;refine(K.o _).mono ?_;rintro e a ⟨rfl,f⟩;subst a;go_wp2_with fail
      all_goals first
       |(rename_i q1 q2;exact absurd q1 (by simp[undef]))
       |(go_ret;exact⟨_,rfl,g.o,c.o⟩)
    ·skip
     have g:Hid (Says false v):=by
      show (false=true)↔_;have j:=d.o;have k:=i.o;simp only[Bool.false_eq_true,false_iff];unfold EMay
      first|omega|(constructor<;>intro h<;>first|omega|(exfalso;omega)|cases h)
     rw[decide_eq_false aj] at L;go_wp2_with fail;refine(L.o _).mono ?_;rintro e a ⟨rfl,f⟩;subst a;go_wp2_with fail
     all_goals first
      |(rename_i q1 q2;exact absurd q1 (by simp[undef]))
      |(go_ret;exact⟨_,rfl,g.o,c.o⟩)
 ·skip
  have g:Hid (Says false v):=by
   show (false=true)↔_;simp only[Bool.false_eq_true,false_iff];unfold EMay
   first|omega|(constructor<;>intro h<;>first|omega|(exfalso;omega)|cases h)
  rw[decide_eq_false ak] at M;go_wp2_with fail;refine(M.o _).mono ?_;rintro e a ⟨rfl,f⟩;subst a;go_wp2_with fail
  all_goals first
   |(rename_i q1 q2;exact absurd q1 (by simp[undef]))
   |(go_ret;exact⟨_,rfl,g.o,c.o⟩)
end book
end Go.Proofs.YtoepgdhiepedeaaGreatDoor
