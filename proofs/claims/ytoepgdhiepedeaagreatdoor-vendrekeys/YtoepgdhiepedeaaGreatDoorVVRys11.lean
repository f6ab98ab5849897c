import Derived.Test.YtoepgdhiepedeaaGreatDoorVVRys6
import Derived.Test.YtoepgdhiepedeaaGreatDoorVVRys8
import Derived.Test.YtoepgdhiepedeaaGreatDoorVVRys9
import Derived.Test.YtoepgdhiepedeaaGreatDoorVVRys10
set_option linter.unusedVariables false
set_option linter.unusedSimpArgs false
set_option maxHeartbeats 4000000
set_option maxRecDepth 100000
namespace Go.Proofs.YtoepgdhiepedeaaGreatDoor
namespace book
open Go.RowKit
def Ev.v(x:Ev):Value:=.agg #[zI x.kd,zI x.me,zI x.mo,zI x.id,zI x.te,zI x.de,zI x.fe,zI x.pr,zI x.ch,zI x.un,zI x.tg,zI x.ow,zI x.bp]
def Ev.cs(x:Ev):Array Value:=#[zI x.kd,zI x.me,zI x.mo,zI x.id,zI x.te,zI x.de,zI x.fe,zI x.pr,zI x.ch,zI x.un,zI x.tg,zI x.ow,zI x.bp]
def wf13(x:Ev):Prop:=(Lit.int .i64 x.kd).wf=true∧(Lit.int .i64 x.me).wf=true∧(Lit.int .i64 x.mo).wf=true∧(Lit.int .i64 x.id).wf=true∧(Lit.int .i64 x.te).wf=true∧(Lit.int .i64 x.de).wf=true∧(Lit.int .i64 x.fe).wf=true∧(Lit.int .i64 x.pr).wf=true∧(Lit.int .i64 x.ch).wf=true∧(Lit.int .i64 x.un).wf=true∧(Lit.int .i64 x.tg).wf=true∧(Lit.int .i64 x.ow).wf=true∧(Lit.int .i64 x.bp).wf=true
theorem wf_may{x:Ev}(h:EMay x):wf13 x:=by
 have a:=may_word h
 have q:∀z,0≤z∧z<4294967296→(Lit.int .i64 z).wf=true:=λz b=>by
  simp only[Lit.wf,Bool.and_eq_true,decide_eq_true_eq];rw[show IntKind.i64.min=-9223372036854775808 from by decide,show IntKind.i64.max=9223372036854775807 from by decide];omega
 exact⟨q _ (a _ (by simp[evL])),q _ (a _ (by simp[evL])),q _ (a _ (by simp[evL])),q _ (a _ (by simp[evL])),q _ (a _ (by simp[evL])),q _ (a _ (by simp[evL])),q _ (a _ (by simp[evL])),q _ (a _ (by simp[evL])),q _ (a _ (by simp[evL])),q _ (a _ (by simp[evL])),q _ (a _ (by simp[evL])),q _ (a _ (by simp[evL])),q _ (a _ (by simp[evL]))⟩
end book
namespace acc
open tar (Du du0 Came RowD Ld PairT)
open Go.RowKit
theorem grown_blk{w w':World}{own:Option Nat}{G:Nat}{cs:Array Value}{t:TypeId}(h:Blk w G cs t)(hg:w.grownBy w' own)(hne:some G≠own):Blk w' G cs t:=by
 unfold Blk at *;rw[hg.block G (Blk.lt h) hne];exact h
end acc
namespace tar
open Go.RowKit
theorem rmay(a:Option Addr)(len cap:Nat)(ls:List Du)(x n:Int)(w:World)(hr:RowD w a len ls)(hl:len≤maxLen):Calls Tryz.prog 90 #[.slice a len cap,zI x,zI n] w λe w'=>ErrPost w (MayIs ls x n) e w':=by
 have c:Hid (∀W,zC 47 #[zI x,zI 0,zI 10000000] W λe w'=>e=.returned (.bool (decide (0≤x∧x≤10000000)))∧w'=W):=λW=>cal.cin x 0 10000000 W;have d:Hid (∀W,zC 47 #[zI n,zI 0,zI 2097151] W λe w'=>e=.returned (.bool (decide (0≤n∧n≤2097151)))∧w'=W):=λW=>cal.cin n 0 2097151 W;have q:Hid (zC 87 #[.slice a len cap] w λe w'=>ErrPost w (FaultIs ls) e w'):=rfault a len cap ls w hr hl;clear hr hl;go_enter Tryz.func90,Tryz.ntmps90;go_wp2_with fail;refine q.o.mono ?_;rintro e C ⟨f,rfl,hf,z⟩;have j:Hid (zB w C):=z;have D:Hid (FaultIs ls f):=hf;clear z;by_cases p:f=0
 ·subst p;have m:Hid (Right ls):=hf.ok.1 rfl;clear hf;by_cases l:0≤x∧x≤10000000
  ·rw[decide_eq_true l] at c;obtain⟨u,y⟩:=l;by_cases k:0≤n∧n≤2097151
   ·rw[decide_eq_true k] at d;obtain⟨r,s⟩:=k;by_cases t:x+n≤10000000
    ·have g:Hid (MayIs ls x n 0):=.inr (.inr ⟨m.o,⟨⟨u,y⟩,⟨r,s⟩,t⟩,rfl⟩);have A:decide (10000000<x+n)=false:=decide_eq_false (by omega);go_wp2_with fail;refine(c.o _).mono ?_;rintro e i ⟨rfl,b⟩;subst b;go_wp2_with fail;refine(d.o _).mono ?_;rintro e i ⟨rfl,b⟩;subst b;go_wp2_with fail;go_ret;exact⟨_,rfl,g.o,j.o⟩
    ·have g:Hid (MayIs ls x n 2):=.inr (.inl ⟨m.o,λh=>t h.2.2,rfl⟩);have A:decide (10000000<x+n)=true:=decide_eq_true (by omega);clear t;go_wp2_with fail;refine(c.o _).mono ?_;rintro e i ⟨rfl,b⟩;subst b;go_wp2_with fail;refine(d.o _).mono ?_;rintro e i ⟨rfl,b⟩;subst b;go_wp2_with fail;go_ret;exact⟨_,rfl,g.o,j.o⟩
   ·rw[decide_eq_false k] at d;have g:Hid (MayIs ls x n 2):=.inr (.inl ⟨m.o,λh=>k h.2.1,rfl⟩);clear k;go_wp2_with fail;refine(c.o _).mono ?_;rintro e i ⟨rfl,b⟩;subst b;go_wp2_with fail;refine(d.o _).mono ?_;rintro e i ⟨rfl,b⟩;subst b;go_wp2_with fail
    all_goals first
     |(rename_i q1 q2;exact absurd q1 (by simp[undef]))
     |(go_ret;exact⟨_,rfl,g.o,j.o⟩)
  ·rw[decide_eq_false l] at c;have g:Hid (MayIs ls x n 2):=.inr (.inl ⟨m.o,λh=>l h.1,rfl⟩);clear l;go_wp2_with fail;refine(c.o _).mono ?_;rintro e i ⟨rfl,b⟩;subst b;go_wp2_with fail
   all_goals first
    |(rename_i q1 q2;exact absurd q1 (by simp[undef]))
    |(go_ret;exact⟨_,rfl,g.o,j.o⟩)
 ·have B:(f != 0)=true:=by simpa using p
  have g:Hid (MayIs ls x n f):=.inl ⟨λh=>p (hf.ok.2 h),hf⟩;clear hf p;go_wp2_with fail;go_ret;exact⟨_,rfl,g.o,j.o⟩
end tar
namespace acc
open tar (Du du0 Came RowD Ld PairT)
open Go.RowKit
theorem ropen(m:Int)(w:World):Calls Tryz.prog 84 #[zI m] w λe w'=>APost w (OpenIs m) e w':=by
 have b:Hid (∀W,zC 47 #[zI m,zI 0,zI 49] W λe w'=>e=.returned (.bool (decide (0≤m∧m≤49)))∧w'=W):=λW=>cal.cin m 0 49 W;have j:=zye w #[zI 0,zI 0,zI 0,zI 0,zI 0,zI 0,zS] 55;have h:Hid (zB w (w.alloc (.cells #[zI 0,zI 0,zI 0,zI 0,zI 0,zI 0,zS] 55))):=(Below.refl w.heap.size w).alloc (by simp) _;by_cases g:0≤m∧m≤49
 ·rw[decide_eq_true g] at b;have i:=zh g;clear g;go_enter Tryz.func84,Tryz.ntmps84;go_wp2_with fail;refine(b.o _).mono ?_;rintro e l ⟨rfl,f⟩;subst f;go_wp2_with refine zs ?_;intro k d;have a:=zyb d;have c:=zk d h;clear d;go_wp2_with fail;exact zr (.tuple #[.agg #[zI m,zI 0,zI 1,zI 0,zI 0,zI (-1),zS],zI 0]) (by simp[results,Tryz.results84,zy0 a,zy1 a,zy2 a,zy3 a,zy4 a,zy5 a,zy6 a,go_sem]) ⟨⟨m,0,1,0,0,-1,[]⟩,none,0,0,_,rfl,.inl ⟨i.o,rfl,rfl⟩,deb.fresh_nil _ _,c.o⟩
 ·rw[decide_eq_false g] at b;have i:=zh g;clear g;go_enter Tryz.func84,Tryz.ntmps84;go_wp2_with fail;refine(b.o _).mono ?_;rintro e l ⟨rfl,f⟩;subst f;go_wp2_with refine zs ?_;intro k d;have a:=zyb d;have c:=zk d h;clear d;go_wp2_with fail;exact zr (.tuple #[.agg #[zI 0,zI 0,zI 0,zI 0,zI 0,zI 0,zS],zI 2]) (by simp[results,Tryz.results84,scl7 a,go_sem]) ⟨ac0,none,0,0,_,rfl,.inr ⟨i.o,rfl,rfl⟩,deb.fresh_nil _ _,c.o⟩
end acc
namespace token
def hasI(lo hi n:Int):Bool:=decide (lo≤n)&&decide (n≤hi)
def amLo(c:Int):Int:=if c=0 then 1 else if c=1 then 0 else if c=2 then 1 else 0
def amHi(c:Int):Int:=if c=0 then 2097151 else if c=1 then 0 else if c=2 then 15 else 0
def flawT(c i a t:Int):Int:=if c<0∨3<c then 9 else if hasI 1 1048575 i&&(hasI (amLo c) (amHi c) a&&hasI 0 65535 t) then 0 else 2
theorem flawT_class{c i a t:Int}(h:c<0∨3<c):flawT c i a t=9:=by unfold flawT;rw[if_pos h]
theorem flawT_in{c i a t:Int}(h:¬ (c<0∨3<c)):flawT c i a t=if hasI 1 1048575 i&&(hasI (amLo c) (amHi c) a&&hasI 0 65535 t) then 0 else 2:=by unfold flawT;rw[if_neg h]
theorem hasI_yes{lo hi n:Int}:hasI lo hi n=true↔lo≤n∧n≤hi:=by simp[hasI]
theorem flaw_tok{k:Tok}:flawT k.c k.i k.a k.t=0↔k.ok:=by
 rw[← okB_ok];unfold flawT okB hasI amLo amHi;rcases (by omega:k.c=0∨k.c=1∨k.c=2∨k.c=3∨4≤k.c) with h|h|h|h|h
 ·simp[h];omega
 ·simp[h];omega
 ·simp[h];omega
 ·simp[h];omega
 ·have b:(3:Int)<(k.c:Int):=by omega
  have d:¬ k.c≤3:=by omega
  simp[b,d]
open Go.RowKit
theorem in_any(n lo hi:Int)(w:World):Calls Tryz.prog 47 #[zI n,zI lo,zI hi] w λe w'=>e=.returned (.bool (hasI lo hi n))∧w'=w:=by
 by_cases h:lo≤n∧n≤hi
 ·rw[hasI_yes.2 h];exact in_yes n lo hi w h.1 h.2
 ·rw[show hasI lo hi n=false by rw[← Bool.not_eq_true];exact λa=>h (hasI_yes.1 a)];exact in_no n lo hi w (by omega)
theorem amt_0(a:Int):hasI (amLo 0) (amHi 0) a=hasI 1 2097151 a:=rfl
theorem amt_2(a:Int):hasI (amLo 2) (amHi 2) a=hasI 1 15 a:=rfl
theorem amt_z(a:Int):hasI 0 0 a=(a==0):=by
 unfold hasI;by_cases h:a=0
 ·subst h;rfl
 ·rw[beq_eq_false_iff_ne.2 h,← Bool.not_eq_true,← hasI];exact λb=>h (by have:=hasI_yes.1 b;omega)
theorem fault_any(c i a t:Int)(w:World):
  Calls Tryz.prog 52 #[.agg #[zI c,zI i,zI a,zI t]] w λe w'=>e=.returned (zI (flawT c i a t))∧zB w w':=by
 have g:Hid (zB w (w.alloc (.cells #[zI c,zI i,zI a,zI t] 73))):=zb.alloc zc _;have d:Hid (∀W,zC 47 #[zI c,zI 0,zI 3] W λe w'=>e=.returned (.bool (hasI 0 3 c))∧w'=W):=λW=>in_any _ _ _ W;have k:Hid (∀W,zC 47 #[zI i,zI 1,zI 1048575] W λe w'=>e=.returned (.bool (hasI 1 1048575 i))∧w'=W):=λW=>in_any _ _ _ W;have l:Hid (∀W,zC 47 #[zI t,zI 0,zI 65535] W λe w'=>e=.returned (.bool (hasI 0 65535 t))∧w'=W):=λW=>in_any _ _ _ W;have p:Hid (∀W,zC 47 #[zI a,zI 1,zI 2097151] W λe w'=>e=.returned (.bool (hasI 1 2097151 a))∧w'=W):=λW=>in_any _ _ _ W;have q:Hid (∀W,zC 47 #[zI a,zI 1,zI 15] W λe w'=>e=.returned (.bool (hasI 1 15 a))∧w'=W):=λW=>in_any _ _ _ W;by_cases h:c<0∨3<c
 ·rw[flawT_class h];have b:hasI 0 3 c=false:=by rw[← Bool.not_eq_true];exact λr=>by have:=hasI_yes.1 r;omega
  rw[b] at d;clear h b;go_enter Tryz.func52,Tryz.ntmps52;go_wp2_with (go_at_call 47;refine(d.o _).mono ?_;rintro e w' ⟨rfl,rfl⟩)
  go_ret;exact⟨rfl,g.o⟩
 ·have b:hasI 0 3 c=true:=hasI_yes.2 (by omega);rw[b] at d;rw[flawT_in h];have s:Hid ((a==0)=hasI 0 0 a):=(amt_z a).symm;have j:(a != 0)=!(hasI 0 0 a):=by rw[amt_z];rfl
  generalize hasI 1 1048575 i=m at *;generalize hasI 0 65535 t=n at *;rcases (by omega:c=0∨c=1∨c=2∨c=3) with rfl|rfl|rfl|rfl
  ·rw[amt_0];clear j h b;generalize hasI 1 2097151 a=f at *;cases m<;>cases n<;>cases f
   all_goals
    go_enter Tryz.func52,Tryz.ntmps52
    go_wp2_with (first
     |(go_at_call_of 47 (Value.int .i64 3);refine(d.o _).mono ?_;rintro e w' ⟨rfl,rfl⟩)
     |(go_at_call_of 47 (Value.int .i64 1048575);refine(k.o _).mono ?_;rintro e w' ⟨rfl,rfl⟩)
     |(go_at_call_of 47 (Value.int .i64 65535);refine(l.o _).mono ?_;rintro e w' ⟨rfl,rfl⟩)
     | (go_at_call_of 47 (Value.int .i64 2097151);refine (p.o _).mono ?_;rintro e w' ⟨rfl,rfl⟩))
    go_ret;exact⟨rfl,g.o⟩
  ·rw[show hasI (amLo 1) (amHi 1) a=hasI 0 0 a from rfl];clear h b;generalize hasI 0 0 a=f at *;cases m<;>cases n<;>cases f
   all_goals
    go_enter Tryz.func52,Tryz.ntmps52
    go_wp2_with (first
     |(go_at_call_of 47 (Value.int .i64 3);refine(d.o _).mono ?_;rintro e w' ⟨rfl,rfl⟩)
     |(go_at_call_of 47 (Value.int .i64 1048575);refine(k.o _).mono ?_;rintro e w' ⟨rfl,rfl⟩)
     | (go_at_call_of 47 (Value.int .i64 65535);refine (l.o _).mono ?_;rintro e w' ⟨rfl,rfl⟩))
    go_ret;exact⟨rfl,g.o⟩
  ·rw[amt_2];clear j h b;generalize hasI 1 15 a=f at *;cases m<;>cases n<;>cases f
   all_goals
    go_enter Tryz.func52,Tryz.ntmps52
    go_wp2_with (first
     |(go_at_call_of 47 (Value.int .i64 3);refine(d.o _).mono ?_;rintro e w' ⟨rfl,rfl⟩)
     |(go_at_call_of 47 (Value.int .i64 1048575);refine(k.o _).mono ?_;rintro e w' ⟨rfl,rfl⟩)
     |(go_at_call_of 47 (Value.int .i64 65535);refine(l.o _).mono ?_;rintro e w' ⟨rfl,rfl⟩)
     | (go_at_call_of 47 (Value.int .i64 15);refine (q.o _).mono ?_;rintro e w' ⟨rfl,rfl⟩))
    go_ret;exact⟨rfl,g.o⟩
  ·rw[show hasI (amLo 3) (amHi 3) a=hasI 0 0 a from rfl];clear h b;generalize hasI 0 0 a=f at *;cases m<;>cases n<;>cases f
   all_goals
    go_enter Tryz.func52,Tryz.ntmps52
    go_wp2_with (first
     |(go_at_call_of 47 (Value.int .i64 3);refine(d.o _).mono ?_;rintro e w' ⟨rfl,rfl⟩)
     |(go_at_call_of 47 (Value.int .i64 1048575);refine(k.o _).mono ?_;rintro e w' ⟨rfl,rfl⟩)
     | (go_at_call_of 47 (Value.int .i64 65535);refine (l.o _).mono ?_;rintro e w' ⟨rfl,rfl⟩))
    go_ret;exact⟨rfl,g.o⟩
end token
namespace cell
open Go.RowKit
def GaveU(w:World)(zs:List Int)(e:Ending)(w':World):Prop:=∃v,e=.returned v∧Ws w' w.heap.size v zs∧zB w w'
theorem GaveU.mk{w w':World}{zs:List Int}{v:Value}(h1:Ws w' w.heap.size v zs)(h2:zB w w'):GaveU w zs (.returned v) w':=⟨v,rfl,h1,h2⟩
end cell
namespace token
open Go.RowKit
theorem Eight.cell{w:World}{g:Nat}{a0 a1 a2 a3 a4 a5 a6 a7:Int}(h:Eight w g a0 a1 a2 a3 a4 a5 a6 a7):
  w.cell? ⟨g,0,none⟩=some (zI a0)∧w.cell? ⟨g,1,none⟩=some (zI a1)∧w.cell? ⟨g,2,none⟩=some (zI a2)∧w.cell? ⟨g,3,none⟩=some (zI a3) ∧
  w.cell? ⟨g,4,none⟩=some (zI a4)∧w.cell? ⟨g,5,none⟩=some (zI a5)∧w.cell? ⟨g,6,none⟩=some (zI a6)∧w.cell? ⟨g,7,none⟩=some (zI a7):=by
 obtain⟨t,a,h⟩:=h;simp[World.cell?,h]
theorem has_any(lo hi n:Int)(w:World):
  Calls Tryz.prog 156 #[.agg #[zI lo,zI hi],zI n] w λe w'=>e=.returned (.bool (hasI lo hi n))∧zB w w':=by
 have a:zB w (w.alloc (.cells #[zI lo,zI hi] 238)):=zb.alloc zc _;by_cases h:lo≤n
 ·have e:hasI lo hi n=decide (n≤hi):=by simp[hasI,h]
  rw[e];go_enter Tryz.func156,Tryz.ntmps156;go_wp2;go_ret;exact⟨rfl,a⟩
 ·have e:hasI lo hi n=false:=by simp[hasI,h]
  have b:n<lo:=by omega
  rw[e];go_enter Tryz.func156,Tryz.ntmps156;go_wp2;go_ret;exact⟨rfl,a⟩
end token
namespace words
theorem ofInt_nat(k a:Nat)(h:a<2^k):(BitVec.ofInt k (a:Int)).toNat=a:=by
 rw[BitVec.ofInt_natCast,BitVec.toNat_ofNat];exact Nat.mod_eq_of_lt h
theorem wrap_u32(n:Int):IntKind.u32.wrap n=n%4294967296:=by simp[IntKind.wrap,IntKind.bits,IntKind.signed]
theorem or64(a b:Nat)(ha:a<2^64)(hb:b<2^64):bits .or .u64 (a:Int) (b:Int)=((a ||| b:Nat):Int):=by
 have h:=Nat.or_lt_two_pow ha hb;show IntKind.u64.wrap ((BitVec.ofInt 64 (a:Int) ||| BitVec.ofInt 64 (b:Int)).toNat:Int)=_;rw[BitVec.toNat_or,ofInt_nat 64 a ha,ofInt_nat 64 b hb,IntKind.wrap_u64];omega
theorem and64(a b:Nat)(ha:a<2^64)(hb:b<2^64):bits .and .u64 (a:Int) (b:Int)=((a &&& b:Nat):Int):=by
 have h:a &&& b<2^64:=Nat.and_lt_two_pow a hb;show IntKind.u64.wrap ((BitVec.ofInt 64 (a:Int) &&& BitVec.ofInt 64 (b:Int)).toNat:Int)=_;rw[BitVec.toNat_and,ofInt_nat 64 a ha,ofInt_nat 64 b hb,IntKind.wrap_u64];omega
theorem or32(a b:Nat)(ha:a<2^32)(hb:b<2^32):bits .or .u32 (a:Int) (b:Int)=((a ||| b:Nat):Int):=by
 have h:=Nat.or_lt_two_pow ha hb;show IntKind.u32.wrap ((BitVec.ofInt 32 (a:Int) ||| BitVec.ofInt 32 (b:Int)).toNat:Int)=_;rw[BitVec.toNat_or,ofInt_nat 32 a ha,ofInt_nat 32 b hb,wrap_u32];omega
theorem andNot32(a b:Nat)(ha:a<2^32)(hb:b<2^32):bits .andNot .u32 (a:Int) (b:Int)=((a &&& (2^32-1-b):Nat):Int):=by
 have h:a &&& (2^32-1-b)<2^32:=Nat.and_lt_two_pow a (by omega);show IntKind.u32.wrap ((BitVec.ofInt 32 (a:Int) &&& ~~~ BitVec.ofInt 32 (b:Int)).toNat:Int)=_;rw[BitVec.toNat_and,BitVec.toNat_not,ofInt_nat 32 a ha,ofInt_nat 32 b hb,wrap_u32];omega
theorem or_words(n x:Int)(n0:0≤n)(n1:n<4294967296)(x0:0≤x)(x1:x<4294967296):bits .or .u64 (n*4294967296) x=n*4294967296+x:=by
 obtain⟨p,rfl⟩:=Int.eq_ofNat_of_zero_le n0;obtain⟨q,rfl⟩:=Int.eq_ofNat_of_zero_le x0;have e:((p:Int)*4294967296)=((p*4294967296:Nat):Int):=by simp
 rw[e,or64 _ _ (by omega) (by omega)];have h:=Nat.shiftLeft_add_eq_or_of_lt (show q<2^32 by omega) p;rw[Nat.shiftLeft_eq] at h;have a:p*4294967296 ||| q=p*4294967296+q:=h.symm
 rw[a];simp
open Go.RowKit
theorem pow_min{j:Nat}(hj:¬ j≤64):∃d,2^j=2^64*2^d:=⟨j-64,by rw[← Nat.pow_add];congr 1;omega⟩
theorem sh_down(v j:Nat)(hj:0<j)(hv:v<2^64):((sh v (-(j:Int)):Nat):Int)=(v:Int)/2^min j 64:=by
 unfold sh;rw[if_pos (by omega),show (-(-(j:Int))).toNat=j by omega];by_cases h:j≤64
 ·rw[Nat.min_eq_left h];simp
 ·rw[Nat.min_eq_right (by omega)];have a:v/2^j=0:=Nat.div_eq_of_lt (Nat.lt_of_lt_of_le hv (Nat.pow_le_pow_right (by decide) (by omega)));rw[a];omega
theorem sh_up(v:Nat)(k:Int)(hk:0≤k):((sh v k:Nat):Int)=IntKind.u64.wrap ((v:Int)*2^min k.toNat 64):=by
 unfold sh;rw[if_neg (by omega),IntKind.wrap_u64];by_cases h:k.toNat≤64
 ·rw[Nat.min_eq_left h];simp
 ·rw[Nat.min_eq_right (by omega)];obtain⟨d,a⟩:=pow_min h;rw[a,Nat.mul_left_comm,Nat.mul_mod_right];omega
theorem ones_shift(n:Nat)(h0:1≤n)(h1:n≤64):((onesN n:Nat):Int)=18446744073709551615/2^(64-n):=by
 have e:(18446744073709551615:Int)/2^(64-n)=((18446744073709551615/2^(64-n):Nat):Int):=by simp
 rw[e]
 congr 1
 unfold onesN;have a:2^64=2^n*2^(64-n):=by rw[← Nat.pow_add];congr 1;omega
 have c:0<2^(64-n):=Nat.two_pow_pos _;have b:0<2^n:=Nat.two_pow_pos _;symm;apply Nat.div_eq_of_lt_le
 ·have:(2^n-1)*2^(64-n)=2^64-2^(64-n):=by rw[a,Nat.sub_mul,Nat.one_mul]
  omega
 ·have:(2^n-1+1)*2^(64-n)=2^64:=by rw[a,Nat.sub_add_cancel b]
  omega
theorem shift_any(v:Nat)(k:Int)(w:World)(hv:v<2^64)(k0:-96≤k)(k1:k≤96):
  Calls Tryz.prog 158 #[.int .u64 (v:Int),zI k] w λe w'=>e=.returned (.int .u64 (sh v k:Nat))∧w'=w:=by
 by_cases h:k<0
 ·obtain⟨j,rfl⟩:∃j:Nat,k=-(j:Int):=⟨(-k).toNat,by omega⟩
  have a:0<j:=by omega
  have e:=sh_down v j a hv;have b:-(-(j:Int))=(j:Int):=by omega
  rw[e];clear e;go_enter Tryz.func158,Tryz.ntmps158;go_wp2;go_ret;exact⟨rfl,rfl⟩
 ·have e:=sh_up v k (by omega);rw[e];clear e;go_enter Tryz.func158,Tryz.ntmps158;go_wp2;go_ret;exact⟨rfl,rfl⟩
theorem ones_any(n:Nat)(w:World)(h0:1≤n)(h1:n≤64):
  Calls Tryz.prog 159 #[zI (n:Int)] w λe w'=>e=.returned (.int .u64 (onesN n:Nat))∧w'=w:=by
 rw[ones_shift n h0 h1];go_enter Tryz.func159,Tryz.ntmps159;go_wp2;go_ret;exact⟨rfl,rfl⟩
theorem isField_yes(lo n:Int)(w:World)(h0:0≤lo)(h1:1≤n)(h2:n≤64)(h3:lo≤96-n):
  Calls Tryz.prog 157 #[zI lo,zI n] w λe w'=>e=.returned (.bool true)∧w'=w:=by
 go_enter Tryz.func157,Tryz.ntmps157;go_wp2;go_ret;exact⟨rfl,rfl⟩
end words
namespace bki
open Go.RowKit
def Row(w:World)(a:Option Addr)(len:Nat)(zs:List Int):Prop:=
 zs.length=len∧(len=0∨∃b off,a=some ⟨b,off,none⟩∧∀i,i<len→w.cell? ⟨b,off+i,none⟩=some (zI (zs.getD i 0)))
def okAll(lo hi:Int)(l:List Int):Bool:=l.all λn=>decide (lo≤n)&&decide (n≤hi)
theorem okAll_step(lo hi:Int)(zs:List Int)(k:Nat)(hk:k<zs.length)(h:okAll lo hi (zs.take k)=true)(h1:lo≤zs.getD k 0)(h2:zs.getD k 0≤hi):okAll lo hi (zs.take (k+1))=true:=by
 unfold okAll at *;rw[List.take_add_one,List.all_append,h];simp only[List.getD,List.getElem?_eq_getElem hk,Option.getD] at h1 h2 ⊢;simp[h1,h2]
theorem okAll_no(lo hi:Int)(zs:List Int)(k:Nat)(hk:k<zs.length)(h:zs.getD k 0<lo∨hi<zs.getD k 0):okAll lo hi zs=false:=by
 unfold okAll;rw[List.all_eq_false];refine⟨zs[k],List.getElem_mem hk,?_⟩;simp only[List.getD,List.getElem?_eq_getElem hk,Option.getD] at h;simp;omega
theorem ret_bool{a b:Bool}(h:a=b):Ending.returned (.bool a)=.returned (.bool b):=by rw[h]
theorem within_any(lo hi:Int)(a:Option Addr)(len cap:Nat)(zs:List Int)(w:World)(hr:Row w a len zs)(hl:len≤maxLen):
  Calls Tryz.prog 161 #[zI lo,zI hi,.slice a len cap] w λe w'=>e=.returned (.bool (okAll lo hi zs))∧w'=w:=by
 unfold maxLen at hl;obtain⟨r,hr⟩:=hr;go_enter Tryz.func161,Tryz.ntmps161;go_wp2;go_loop [11] (λi=>∃k:Nat,k≤len∧i=zI k∧okAll lo hi (zs.take k)=true) (λi=>len-(intOf i).toNat)
 case atStart=>exact⟨0,Nat.zero_le _,rfl,rfl⟩
 case round=>
  obtain⟨k,q,rfl,d⟩:=hrel;have h:Hid (okAll lo hi (zs.take k)=true):=d;clear d;by_cases g:k<len
  ·rcases hr with p|⟨b,n,rfl,j⟩
   ·omega
   have c:=j k g;clear j;generalize hzk:zs.getD k 0=z at c;have f:Hid (zs.getD k 0=z):=hzk;clear hzk;by_cases l:z<lo
   ·go_wp2;go_ret;exact⟨ret_bool (okAll_no lo hi zs k (by omega) (.inl (by rw[f.o];exact l))).symm,rfl⟩
   ·by_cases m:hi<z
    ·go_wp2;go_ret;exact⟨ret_bool (okAll_no lo hi zs k (by omega) (.inr (by rw[f.o];exact m))).symm,rfl⟩
    ·go_wp2;go_round
     case rel=>exact⟨k+1,by omega,by go_num,okAll_step lo hi zs k (by omega) h.o (by rw[f.o];omega) (by rw[f.o];omega)⟩
     case measure=>simp[intOf];omega
  ·go_wp2;go_ret;refine⟨ret_bool ?_,rfl⟩;have:=h.o;rw[List.take_of_length_le (by omega)] at this;exact this.symm
theorem row_one(w:World)(z:Int)(t:TypeId):Row (w.alloc (.cells #[zI z] t)) (some ⟨w.heap.size,0,none⟩) 1 [z]:=by
 refine⟨rfl,.inr ⟨_,_,rfl,λi a=>?_⟩⟩;obtain rfl:i=0:=by omega
 simp
theorem bel1(w:World)(o:Obj):zB w (w.alloc o):=zb.alloc zc _
theorem bel2(w:World)(o o':Obj):zB w ((w.alloc o).alloc o'):=(bel1 w o).alloc (by simp) _
theorem within_one(lo hi z:Int)(w:World)(b:Nat)(hb:b=w.heap.size):
  Calls Tryz.prog 161 #[zI lo,zI hi,.slice (some ⟨b,0,none⟩) 1 1] (w.alloc (.cells #[zI z] 3)) λe w'=>e=.returned (.bool (decide (lo≤z∧z≤hi)))∧w'=w.alloc (.cells #[zI z] 3):=by
 have h:=within_any lo hi _ 1 1 [z] _ (row_one w z 3) (by decide);have e:okAll lo hi [z]=decide (lo≤z∧z≤hi):=by simp[okAll]
 rw[e] at h;rw[hb];exact h
theorem row_four(w:World)(a b c d:Int)(t:TypeId):Row (w.alloc (.cells #[zI a,zI b,zI c,zI d] t)) (some ⟨w.heap.size,0,none⟩) 4 [a,b,c,d]:=by
 refine⟨rfl,.inr ⟨_,_,rfl,λi e=>?_⟩⟩
 match i,e with
 |0,_=>simp
 |1,_=>simp
 |2,_=>simp
 |3,_=>simp
end bki
namespace deb
open tar (Du du0 Came TwoPost)
open Go.RowKit
def KdAge:Prop:=∀(W:World)(a:Option Addr)(len cap:Nat)(ls:List Du)(m:Int),Came W a len cap ls→(Lit.int .i64 m).wf=true→zC 144 #[.slice a len cap,zI m] W λe w'=>AgePost W ls m e w'
open tar (RowD Ld ErrPost PairT GaveD)
theorem grow_more{b x:Int}(hx:0≤x)(hx1:x≤1000000000)(hb:0≤b):grow b x=x+min (x*b/10000) (1000000000-x):=by
 unfold grow;have:=Int.mul_nonneg hx hb;generalize x*b=p at *;omega
theorem pgrowth(x b:Int)(w:World)(hx:0≤x∧x≤1000000000)(hb:0≤b∧b≤10000):Calls Tryz.prog 180 #[.agg #[zI x,zI b]] w λe w'=>e=.returned (zI (min (x*b/10000) (1000000000-x)))∧zB w w':=by
 have g:Hid (∀W,zC 68 #[zI x,zI b] W λe w'=>e=.returned (.tuple #[zI (x*b/10000),zI 0])∧zB W w'):=λW=>cents.part_yes x b W hx.1 (by omega) hb.1 hb.2;have c:Hid (Blk (w.alloc (.cells #[zI x,zI b] 42)) w.heap.size #[zI x,zI b] 42):=Blk.new w _ _;have f:Hid (zB w (w.alloc (.cells #[zI x,zI b] 42))):=zb.alloc zc _;obtain⟨j,k⟩:=hx;clear hb;have h:=tar.run_min (x*b/10000) (1000000000-x) _ rfl;generalize x*b/10000=q at *;generalize min q (1000000000-x)=m at *;go_enter Tryz.func180,Tryz.ntmps180;go_wp2_with fail;refine(g.o _).mono ?_;rintro e i ⟨rfl,a⟩;have d:=shB f a;have c0:i.cell? ⟨w.heap.size,0,none⟩=some (zI x):=(c.o.next a).cell 0;have c1:i.cell? ⟨w.heap.size,1,none⟩=some (zI b):=(c.o.next a).cell 1;clear a;go_wp2_with fail;go_ret;exact⟨rfl,d.o⟩
def KdRec:Prop:=∀(W:World)(a:Option Addr)(len cap:Nat)(ls:List Du)(t bp:Int),Came W a len cap ls→(Lit.int .i64 t).wf=true→(Lit.int .i64 bp).wf=true→zC 67 #[.slice a len cap,zI t,zI bp] W λe w'=>RecPost W ls t bp e w'
def SharePost(ls:List Du)(t bp:Int)(w:World)(e:Ending)(w':World):Prop:=∃s f,e=.returned (.tuple #[zI s,zI f])∧((¬ Mays ls∧FaultIs ls f∧s=0)∨(Mays ls∧ShareIs t bp s f))∧zB w w'
theorem pshare(a:Option Addr)(len cap:Nat)(ls:List Du)(t bp:Int)(w:World)(hr:RowD w a len ls)(hl:len≤maxLen):Calls Tryz.prog 99 #[.slice a len cap,zI t,zI bp] w λe w'=>SharePost ls t bp w e w':=by
 have q:Hid (zC 142 #[.slice a len cap] w λe w'=>∃f,e=.returned (zI f)∧FaultIs ls f∧zB w w'):=pcheck a len cap ls w hr hl;have b:Hid (∀W,zC 145 #[zI 0,zI 100000000,zI t] W λe w'=>e=.returned (.bool (decide (0≤t∧t≤100000000)))∧w'=W):=λW=>dwithin 0 100000000 t W;clear hr hl;go_enter Tryz.func99,Tryz.ntmps99;go_wp2_with fail;refine q.o.mono ?_;rintro e z ⟨f,rfl,hf,n⟩;have g:Hid (zB w z):=n;have u:Hid (FaultIs ls f):=hf;clear n;by_cases p:f=0
 ·subst p;have r:Hid (Mays ls):=hf.ok.1 rfl;clear hf;by_cases i:0≤t∧t≤100000000
  ·rw[decide_eq_true i] at b;by_cases l:0≤bp∧bp≤10000
   ·have k:Hid (∀W,zC 68 #[zI t,zI bp] W λe w'=>e=.returned (.tuple #[zI (t*bp/10000),zI 0])∧zB W w'):=λW=>cents.part_yes t bp W i.1 (by omega) l.1 l.2;have m:Hid (TMay t bp):=⟨i,l⟩
    clear i l;go_wp2_with fail;refine(b.o _).mono ?_;rintro e s ⟨rfl,d⟩;subst d;go_wp2_with fail;refine(k.o _).mono ?_;rintro e A ⟨rfl,c⟩;have j:=shB g c;clear c;go_wp2_with fail;go_ret2;exact⟨_,_,rfl,.inr ⟨r.o,.inl ⟨m.o,rfl,rfl⟩⟩,j.o⟩
   ·have k:Hid (∀W,zC 68 #[zI t,zI bp] W λe w'=>e=.returned (.tuple #[zI 0,zI 2])∧zB W w'):=λW=>cents.part_no t bp W (.inr (by omega));have m:Hid (¬ TMay t bp):=λh=>l h.2;clear i l;go_wp2_with fail;refine(b.o _).mono ?_;rintro e s ⟨rfl,d⟩;subst d;go_wp2_with fail;refine(k.o _).mono ?_;rintro e A ⟨rfl,c⟩;have j:=shB g c;clear c;go_wp2_with fail;go_ret2;exact⟨_,_,rfl,.inr ⟨r.o,.inr ⟨m.o,rfl,rfl⟩⟩,j.o⟩
  ·rw[decide_eq_false i] at b;have m:Hid (¬ TMay t bp):=λh=>i h.1;clear i;go_wp2_with fail;refine(b.o _).mono ?_;rintro e s ⟨rfl,d⟩;subst d;go_wp2_with fail;go_ret2;exact⟨_,_,rfl,.inr ⟨r.o,.inr ⟨m.o,rfl,rfl⟩⟩,g.o⟩
 ·have y:(f != 0)=true:=by simpa using p
  have x:Hid (¬ Mays ls):=λh=>p (hf.ok.2 h);clear hf p;go_wp2_with fail;go_ret2;exact⟨_,_,rfl,.inl ⟨x.o,u.o,rfl⟩,g.o⟩
end deb
namespace tar
open Go.RowKit
def KtMost:Prop:=∀(W:World)(a:Option Addr)(len cap:Nat)(ls:List Du)(x n:Int),Came W a len cap ls→(Lit.int .i64 x).wf=true→(Lit.int .i64 n).wf=true→zC 69 #[.slice a len cap,zI x,zI n] W λe w'=>ThreePost W (MostIs ls x n) e w'
end tar
namespace deb
open tar (Du du0 Came TwoPost)
open Go.RowKit
def KdTotal:Prop:=∀(W:World)(a:Option Addr)(len cap:Nat)(ls:List Du),Came W a len cap ls→zC 96 #[.slice a len cap] W λe w'=>TwoPost W (OwedIs ls) e w'
open tar (RowD Ld ErrPost PairT GaveD)
theorem ktotal:KdTotal:=by
 intro w a len c g b;have s:=b.row;have p:Hid (zC 142 #[.slice a len c] w λe j=>∃f,e=.returned (zI f)∧FaultIs g f∧zB w j):=pcheck a len c g w s b.most;have r:Hid (Mays g→∀W,zB w W→zC 143 #[.slice a len c] W λe j=>e=.returned (zI (sumD g))∧zB W j):=λm W x=>powed a len c g W (s.below x) m;clear b s;go_enter Tryz.func96,Tryz.ntmps96;go_wp2_with fail;refine p.o.mono ?_;rintro e k ⟨f,rfl,hf,h⟩;have d:Hid (zB w k):=h;have t:Hid (FaultIs g f):=hf;clear h;by_cases l:f=0
 ·subst l;have m:=hf.ok.1 rfl;have q:Hid (zC 143 #[.slice a len c] k λe j=>e=.returned (zI (sumD g))∧zB k j):=r.o m k d.o;clear hf m;go_wp2_with fail;refine q.o.mono ?_;rintro e z ⟨rfl,i⟩;have n:=shB d i;clear i;go_wp2_with fail;go_ret2;exact⟨_,_,rfl,⟨t.o,.inl ⟨rfl,rfl⟩⟩,n.o⟩
 ·have y:(f != 0)=true:=by simpa using l
  have u:Hid (f≠0):=l;clear hf l;go_wp2_with fail;go_ret2;exact⟨_,_,rfl,⟨t.o,.inr ⟨u.o,rfl⟩⟩,d.o⟩
end deb
namespace acc
open tar (Du)
open Go.RowKit
def KcOwe:Prop:=∀(W:World)(x:Ac)(p:Option Addr)(len cap:Nat)(q:Du),ACame W x p len cap→(Lit.int .i64 q.a).wf=true∧(Lit.int .i64 q.b).wf=true→zC 182 #[x.v p len cap,.agg #[zI q.a,zI q.b]] W λe w'=>APost W (OweIs x q) e w'
end acc
namespace book
open Go.RowKit
theorem of_caught(ge gn ga:Nat)(f0 m0 a0 f:Int)(hf:f≠0)(w:World)(he:Blk w ge #[zI f0] 36)(hn:Blk w gn #[zI m0] 3)(ha:Blk w ga #[zI a0] 3)(h1:gn≠ge)(h2:ga≠ge):
  CallsD Tryz.prog 106 #[.pointer (some ⟨ge,0,none⟩),.pointer (some ⟨gn,0,none⟩),.pointer (some ⟨ga,0,none⟩)] (.panicking (thrown f)) w λe u' w'=>e=.returned (.tuple #[])∧settle u'=.returning∧∃W W2,zB w W∧Upd W W2 ge #[zI f] 36∧Upd W2 w' ga #[zI m0] 3:=by
 refine callsD_of_wpS Tryz.func106 rfl λu cs l=>?_;apply wpS_seq;apply wpS_region;simp only[thrown] at l;simp[wpOpsS,go_sem,recoverD,l,Tryz.ntmps106,Exit.thenS];refine(reason_is f w).mono ?_;rintro e i ⟨rfl,a⟩;have j:=he.next a;have n:=hn.next a;have m:=ha.next a;have p:=j.cell 0;have q:=j.free 0;have g:Upd i (i.setCell ⟨ge,0,none⟩ (zI f)) ge #[zI f] 36:=upd_cells ge _ [zI f] 0 i _ j;simp[go_sem,p,q,Exit.thenS];generalize i.setCell ⟨ge,0,none⟩ (zI f)=W2 at *;have c:=g.blk;have d:=g.keep n h1;have b:=g.keep m h2;have x:=c.cell 0;have y:=d.cell 0;have nf:(f != 0)=true:=by simpa using hf
 change Code.wpS _ _ _ { tmps:=#[.pointer (some ⟨ge,0,none⟩),.pointer (some ⟨gn,0,none⟩),.pointer (some ⟨ga,0,none⟩),refV f,zI f,undef,undef,undef],defers:=[] } _ _;apply wpS_of_wp;have r:=zh b;have t:=zh g;have s:=zh a;clear hf he hn ha j n m p q g c d b a l;go_wp2_with refine zl ?_;intro W3 h;have k:=zh h;clear h;go_wp2_with fail;simp[bodyPostS,results,Tryz.results106,settle];exact⟨i,s.o,W2,t.o,k.o⟩
theorem of_idle(ge gn ga:Nat)(f0:Int)(w:World)(he:Blk w ge #[zI f0] 36):
  CallsD Tryz.prog 106 #[.pointer (some ⟨ge,0,none⟩),.pointer (some ⟨gn,0,none⟩),.pointer (some ⟨ga,0,none⟩)] .returning w λe u' w'=>e=.returned (.tuple #[])∧settle u'=.returning∧∃W,zB w W∧Upd W w' ge #[zI 0] 36:=by
 refine callsD_of_wpS Tryz.func106 rfl λi cs b=>?_;apply wpS_seq;apply wpS_region;simp[wpOpsS,go_sem,recoverD,b,Tryz.ntmps106,Exit.thenS];refine(reason_nil w).mono ?_;rintro e c ⟨rfl,rfl⟩;have d:=he.cell 0;have f:=he.free 0;have a:Upd c (c.setCell ⟨ge,0,none⟩ (zI 0)) ge #[zI 0] 36:=upd_cells ge _ [zI 0] 0 c _ he;simp[go_sem,d,f,Exit.thenS];generalize c.setCell ⟨ge,0,none⟩ (zI 0)=j at *;have k:=zx0 a;change Code.wpS _ _ _ { tmps:=#[.pointer (some ⟨ge,0,none⟩),.pointer (some ⟨gn,0,none⟩),.pointer (some ⟨ga,0,none⟩),.nilIface,zI 0,undef,undef,undef],defers:=[] } _ _;apply wpS_of_wp;have h:=zh a;have g:=zh b;clear he d f a b;go_wp2_with fail;have b:=g.o;have a:=h.o;simp[bodyPostS,results,Tryz.results106,b,settle];exact⟨.returning,(by cases i;simp_all),rfl,c,zb,a⟩
open cell
def EncGot(w:World)(v:Ev)(e:Ending)(w':World):Prop:=∃a n cap ws f,e=.returned (.tuple #[.slice a n cap,zI f])∧EncIs v ws f∧RowU w' a n ws∧(a=none→cap=0)∧n≤cap∧n≤13∧zB w w'
def KEnc:Prop:=∀(W:World)(v:Ev),wf13 v→zC 76 #[v.v] W λe w'=>EncGot W v e w'
end book
end Go.Proofs.YtoepgdhiepedeaaGreatDoor
namespace Go.Proofs
open Go.Shelf
def Tryz.lays105_ren : Go.Shelf.Ren := ⟨fun|105 => 80|212 => 126|99 => 127|165 => 128|166 => 129|170 => 130|169 => 131|263 => 170|264 => 171|206 => 172|240 => 173|241 => 174|276 => 188|277 => 189|n => n, fun|9 => 9|3 => 3|4 => 4|20 => 20|0 => 0|46 => 196|109 => 197|5 => 5|72 => 202|76 => 206|51 => 83|146 => 256|53 => 174|148 => 258|70 => 200|37 => 195|75 => 205|127 => 260|164 => 268|80 => 128|n => n, fun|n => n⟩
theorem Tryz.lays105 : Go.Proofs.Lays.n105 Tryz.prog Tryz.lays105_ren := {
 mixed := by kernel_rfl
 f99 := Tryz.func127.trans (congrArg some (by kernel_rfl))
 f105 := Tryz.func80.trans (congrArg some (by kernel_rfl))
 f165 := Tryz.func128.trans (congrArg some (by kernel_rfl))
 f166 := Tryz.func129.trans (congrArg some (by kernel_rfl))
 f169 := Tryz.func131.trans (congrArg some (by kernel_rfl))
 f170 := Tryz.func130.trans (congrArg some (by kernel_rfl))
 f206 := Tryz.func172.trans (congrArg some (by kernel_rfl))
 f212 := Tryz.func126.trans (congrArg some (by kernel_rfl))
 f240 := Tryz.func173.trans (congrArg some (by kernel_rfl))
 f241 := Tryz.func174.trans (congrArg some (by kernel_rfl))
 f263 := Tryz.func170.trans (congrArg some (by kernel_rfl))
 f264 := Tryz.func171.trans (congrArg some (by kernel_rfl))
 f276 := Tryz.func188.trans (congrArg some (by kernel_rfl))
 f277 := Tryz.func189.trans (congrArg some (by kernel_rfl))
 t0 := Tryz.underlying0
 a0 := Tryz.isAgg0
 z0 := Tryz.sizeOf0
 v0 := Tryz.zeroValue0
 t3 := Tryz.underlying3
 a3 := Tryz.isAgg3
 z3 := Tryz.sizeOf3
 v3 := Tryz.zeroValue3
 t4 := Tryz.underlying4
 a4 := Tryz.isAgg4
 z4 := Tryz.sizeOf4
 v4 := Tryz.zeroValue4
 t5 := Tryz.underlying5
 a5 := Tryz.isAgg5
 z5 := Tryz.sizeOf5
 v5 := Tryz.zeroValue5
 t9 := Tryz.underlying9
 a9 := Tryz.isAgg9
 z9 := Tryz.sizeOf9
 v9 := Tryz.zeroValue9
 t20 := Tryz.underlying20
 a20 := Tryz.isAgg20
 z20 := Tryz.sizeOf20
 v20 := Tryz.zeroValue20
 t37 := Tryz.underlying195
 a37 := Tryz.isAgg195
 z37 := Tryz.sizeOf195
 v37 := Tryz.zeroValue195
 t46 := Tryz.underlying196
 a46 := Tryz.isAgg196
 z46 := Tryz.sizeOf196
 v46 := Tryz.zeroValue196
 t51 := Tryz.underlying83
 a51 := Tryz.isAgg83
 z51 := Tryz.sizeOf83
 v51 := Tryz.zeroValue83
 t53 := Tryz.underlying174
 a53 := Tryz.isAgg174
 z53 := Tryz.sizeOf174
 v53 := Tryz.zeroValue174
 t70 := Tryz.underlying200
 a70 := Tryz.isAgg200
 z70 := Tryz.sizeOf200
 v70 := Tryz.zeroValue200
 t72 := Tryz.underlying202
 a72 := Tryz.isAgg202
 z72 := Tryz.sizeOf202
 v72 := Tryz.zeroValue202
 t75 := Tryz.underlying205
 a75 := Tryz.isAgg205
 z75 := Tryz.sizeOf205
 v75 := Tryz.zeroValue205
 t76 := Tryz.underlying206
 a76 := Tryz.isAgg206
 z76 := Tryz.sizeOf206
 v76 := Tryz.zeroValue206
 t109 := Tryz.underlying197
 a109 := Tryz.isAgg197
 z109 := Tryz.sizeOf197
 v109 := Tryz.zeroValue197
 t127 := Tryz.underlying260
 a127 := Tryz.isAgg260
 z127 := Tryz.sizeOf260
 v127 := Tryz.zeroValue260
 t146 := Tryz.underlying256
 a146 := Tryz.isAgg256
 z146 := Tryz.sizeOf256
 v146 := Tryz.zeroValue256
 t148 := Tryz.underlying258
 a148 := Tryz.isAgg258
 z148 := Tryz.sizeOf258
 v148 := Tryz.zeroValue258
 t164 := Tryz.underlying268
 a164 := Tryz.isAgg268
 z164 := Tryz.sizeOf268
 v164 := Tryz.zeroValue268 }
theorem Tryz.Builder_Extra_105 : Builder.Extra Tryz.prog Tryz.lays105_ren := {
 sizeBuilder := by kernel_rfl
 liesBuilder := by kernel_rfl
 t5 := Tryz.underlying5
 a5 := Tryz.isAgg5
 z5 := Tryz.sizeOf5
 v5 := Tryz.zeroValue5
 infoByte := by kernel_rfl
 cellsByte := by kernel_rfl
 sizeByte := by kernel_rfl
 neB5 := by decide }
open Go.RowKit Go.Lib in
theorem Tryz.strings_Repeat(s : ByteArray)(c : Nat)(w : World)(hc : c ≤ 9223372036854775807)(hlen : s.size * c ≤ 140737488355328):
  Calls Tryz.prog 80 #[.string s, .int .i64 c] w λe w' => e=.returned (.string ⟨(Lib.repeatL s.data.toList c).toArray⟩) ∧ Below w.heap.size w w' := Any.strings_Repeat Tryz.lays105 Tryz.Builder_Extra_105 s c w hc hlen
end Go.Proofs
namespace Go.Proofs.YtoepgdhiepedeaaGreatDoor
end Go.Proofs.YtoepgdhiepedeaaGreatDoor
