import Derived.Test.YtoepgdhiepedeaaGreatDoorVVRys31
import Derived.Test.YtoepgdhiepedeaaGreatDoorVVRys34
import Derived.Test.YtoepgdhiepedeaaGreatDoorVVRys35
import Derived.Test.YtoepgdhiepedeaaGreatDoorVVRys38
import Derived.Test.YtoepgdhiepedeaaGreatDoorVVRys39
set_option linter.unusedVariables false
set_option linter.unusedSimpArgs false
set_option maxHeartbeats 4000000
set_option maxRecDepth 100000
namespace Go.Proofs.YtoepgdhiepedeaaGreatDoor
namespace token
open words
open Go.RowKit
theorem body_ok(k:Tok)(w:World)(ht:TTab w)(hk:k.ok):
  Calls Tryz.prog 74 #[k.v] w λe w'=>e=.returned (.tuple #[zI (k.body:Int),zI 0])∧zB w w':=by
 have s:Hid (∀W,TTab W→zC 111 #[.agg #[zI (k.c:Int),zI (k.i:Int),zI (k.a:Int),zI (k.t:Int)]] W λe w'=>e=.returned (zI 0)∧zB W w'):=λW d=>by
  have:=flaw_any k.c k.i k.a k.t W d
  rwa [flaw_tok.2 hk] at this
 have A:Hid (∀W,TTab W→zC 113 #[.agg #[zI (k.c:Int),zI (k.i:Int),zI (k.a:Int),zI (k.t:Int)]] W λe w'=>PackPost W k e w'):=λW d=>pack_any k W hk d
 have B:Hid (∀(x y z:Nat) W,WN x y z k.num→zC 112 #[.agg #[.int .u32 (x:Int),.int .u32 (y:Int),.int .u32 (z:Int)],zI 16,zI 43] W λe w'=>e=.returned (.tuple #[.int .u64 (k.body:Int),zI 0])∧zB W w'):=λx y z W d=>by
  have:=bits_wn x y z 16 43 k.num W d (by omega) (by omega) (by omega)
  rwa [show k.num/2^16%2^43=k.body from body_num hk] at this
 have D:IntKind.i64.wrap (k.body:Int)=(k.body:Int):=wrap_i _ (by have:=body_bd hk;omega);have q:Hid (TTab (w.alloc (.cells #[zI (k.c:Int),zI (k.i:Int),zI (k.a:Int),zI (k.t:Int)] 73))):=ht.below (bel_box _ _);have r:Hid (zB w (w.alloc (.cells #[zI (k.c:Int),zI (k.i:Int),zI (k.a:Int),zI (k.t:Int)] 73))):=bel_box _ _;have C:Hid (Blk (w.alloc (.cells #[zI (k.c:Int),zI (k.i:Int),zI (k.a:Int),zI (k.t:Int)] 73)) w.heap.size #[zI (k.c:Int),zI (k.i:Int),zI (k.a:Int),zI (k.t:Int)] 73):=Blk.new _ _ _;clear ht hk;unfold Tok.v;generalize (k.body:Int)=bd at *;go_enter Tryz.func74,Tryz.ntmps74;go_wp2_with fail;refine(s.o _ q.o).mono ?_;rintro e E ⟨rfl,b⟩;have l:=shB r b;have p:Hid (TTab E):=q.o.below b;have f:=C.o.next b;have F:=f.cell 0;have G:=f.cell 1;have H:=f.cell 2;have I:=f.cell 3;clear b f;go_wp2_with fail;refine(A.o _ p.o).mono ?_;rintro e J ⟨x,y,z,rfl,j,g⟩;have m:=shB l g;have u:Hid (WN x y z k.num):=j;clear g j F G H I;go_wp2_with fail;refine(B.o _ _ _ _ u.o).mono ?_;rintro e K ⟨rfl,h⟩;have n:=shB m h;clear h;go_wp2_with fail;refine bodyPost_ret (v:=.tuple #[zI bd,zI 0]) (by simp[results,Tryz.results74,go_sem]) rfl ⟨rfl,n.o⟩
end token
namespace disk
open Go.RowKit cell
def JR(w:World)(c:List Int)(k:Nat)(W:World):Prop:=∃V sl,Box w w.heap.size V sl (itD c k).1 W
theorem kreplay:KReplay:=by
 intro w a n l c h q d D L;have N:JR w c 0 (w.alloc (.cells #[zS] 140)):=⟨zS,[],Blk.new _ _ _,Lr.zero _ _ _,Recs.nil _ _,(λi y=>by cases y),zb.alloc zc _⟩
 have O:Hid (zC 121 #[.slice a n l,.func (.func 148) #[] #[.pointer (some ⟨w.heap.size,0,none⟩)]] (w.alloc (.cells #[zS] 140)) λe M=>EPost (JR w c) c e M):=by
  refine each_any 148 #[.pointer (some ⟨w.heap.size,0,none⟩)] (JR w c) a n l c _ (λk W F=>?_) N d L (λ_ _=>by kernel_rfl) ?_
  ·obtain⟨V,z,j⟩:=F;exact h.below j.bel
  ·intro k p m b o W F hp E U Q R h3;obtain⟨V,z,j⟩:=F;have X:z.length≤1000000:=by have:=j.recs.1;have:=it_count c k;omega
   refine(put_record w w.heap.size V z _ (recAt c p) b o m W j U Q R X).mono ?_;rintro e M ⟨rfl,P,I,C⟩;refine⟨rfl,P,I,?_⟩;rw[E];exact C
 clear h q d D L;go_enter Tryz.func104,Tryz.ntmps104;go_wp2_with fail;refine O.o.mono ?_;rintro e w1 ⟨x,f,k,rfl,⟨V,z,j⟩,y⟩;have t:=zh j;have K:=zh y;clear j y;by_cases hf:f=0
 ·have u:Hid (RepIs c (itD c k).1 x 0):=by
   rcases K.o with⟨_,_,e⟩|⟨_,_,_,e⟩|⟨s,H,Y,Z,_⟩
   ·rw[hf] at e;exact absurd e (by decide)
   ·rw[hf] at e;exact absurd e (by decide)
   ·exact .inr (.inr ⟨s,H,by rw[Y],Z,rfl⟩)
  have q0:=t.o.blk.cell 0;obtain⟨va,vc,S,r⟩:=t.o.reads;have B:=zh r;have g:=zh t.o.bel;subst hf;subst S;clear r;generalize (itD c k).1=J at *;have A:Hid (J.length≤100000):=Nat.le_trans (rep_few u.o).1 (by decide);generalize G:J.length=zl at *;clear G;go_wp2_with fail;go_ret3;exact⟨va,_,vc,J,x,0,rfl,B.o,A.o,u.o,g.o⟩
 ·have u:Hid (RepIs c [] 0 f):=by
   rcases K.o with⟨s,_,e⟩|⟨s,H,_,e⟩|⟨_,_,_,_,e⟩
   ·exact .inl ⟨s,rfl,rfl,e⟩
   ·exact .inr (.inl ⟨s,H,rfl,rfl,e⟩)
   ·exact absurd e hf
  have g:=zh t.o.bel;have T:(f != 0)=true:=by simpa using hf
  clear hf;go_wp2_with fail;go_ret3;exact⟨none,0,0,[],0,f,rfl,⟨rfl,.inl rfl⟩,Nat.zero_le _,u.o,g.o⟩
end disk
namespace book
open Go.RowKit
theorem bkind(kd me mo id te de fe pr ch un tg ow bp:Int)(w:World):Calls Tryz.prog 162 #[.agg #[zI kd,zI me,zI mo,zI id,zI te,zI de,zI fe,zI pr,zI ch,zI un,zI tg,zI ow,zI bp]] w λe w'=>YN w (KindR ⟨kd,me,mo,id,te,de,fe,pr,ch,un,tg,ow,bp⟩) e w':=by
 obtain⟨x,V,E,A,-⟩:=sh1 w #[zI kd,zI me,zI mo,zI id,zI te,zI de,zI fe,zI pr,zI ch,zI un,zI tg,zI ow,zI bp] 44;go_enter Tryz.func162,Tryz.ntmps162;go_upto_region 1 with fail
 rw[V.o];obtain⟨c0,c1,c2,k,l,m,n,p,r,s,a,b,c⟩:=scl13 E;by_cases F:kd=1
 case pos=>
  have q1:(kd==1)=true:=by simpa using F
  have i:=zh F;clear F;go_wp2_with fail;go_ret;exact YN.yes (Or.inl i.o) A.o
 have q1:(kd==1)=false:=by simpa using F
 by_cases I:kd=2
 case pos=>
  have q2:(kd==2)=true:=by simpa using I
  have i:=zh I;clear F I;have d:Hid (zC 161 #[zI 0,zI 2399,.slice (some ⟨x.heap.size,0,none⟩) 1 1] (x.alloc (.cells #[zI mo] 3)) λe w'=>e=.returned (.bool (decide (0≤mo∧mo≤2399)))∧w'=(x.alloc (.cells #[zI mo] 3))):=bki.within_one 0 2399 mo x _ rfl;have g:=zyf A (.cells #[zI mo] 3);have j:=zya E (.cells #[zI mo] 3);by_cases z:0≤mo∧mo≤2399
  case neg=>
   rw[decide_eq_false z] at d;go_wp2_with fail;refine d.o.mono ?_;rintro e W ⟨rfl,y⟩;subst y;go_wp2_with fail;go_ret;exact YN.no (λq=>(λq=>z q.1) ((kind_2 (v:=⟨kd,me,mo,id,te,de,fe,pr,ch,un,tg,ow,bp⟩) i.o).1 q)) g.o
  rw[decide_eq_true z] at d;go_wp2_with fail;refine d.o.mono ?_;rintro e W ⟨rfl,y⟩;subst y;clear c0 c1 c2 k l m n p r s a b c;generalize (x.alloc (.cells #[zI mo] 3))=J at *;obtain⟨c0,c1,c2,k,l,m,n,p,r,s,a,b,c⟩:=scl13 j;have L:Hid (∀W,zC 185 #[.agg #[zI kd,zI me,zI mo,zI id,zI te,zI de,zI fe,zI pr,zI ch,zI un,zI tg,zI ow,zI bp]] W λe w'=>YN W (Numd id tg) e w'):=λW=>bnum kd me mo id te de fe pr ch un tg ow bp W;go_wp2_with fail;refine(L.o _).mono ?_;rintro e Y ⟨B,rfl,f,h⟩;have t:=shB g h;have u:=shN j h;clear h;clear c0 c1 c2 k l m n p r s a b c;obtain⟨c0,c1,c2,k,l,m,n,p,r,s,a,b,c⟩:=scl13 u;cases B
  case false=>
   have D:Hid (¬ (Numd id tg)):=λq=>absurd (f.2 q) (by decide);clear f;go_wp2_with fail;go_ret;exact YN.no (λq=>(λq=>D.o q.2.1) ((kind_2 (v:=⟨kd,me,mo,id,te,de,fe,pr,ch,un,tg,ow,bp⟩) i.o).1 q)) t.o
  have P:Hid (Numd id tg):=f.1 rfl;clear f;have M:Hid (∀W,zC 186 #[.agg #[zI kd,zI me,zI mo,zI id,zI te,zI de,zI fe,zI pr,zI ch,zI un,zI tg,zI ow,zI bp]] W λe w'=>YN W (Unt un) e w'):=λW=>bunt kd me mo id te de fe pr ch un tg ow bp W;go_wp2_with fail;refine(M.o _).mono ?_;rintro e W3 ⟨B,rfl,f,h⟩;have C:=shB t h;have H:=shN u h;clear h;clear c0 c1 c2 k l m n p r s a b c;obtain⟨c0,c1,c2,k,l,m,n,p,r,s,a,b,c⟩:=scl13 H;cases B
  case false=>
   have D:Hid (¬ (Unt un)):=λq=>absurd (f.2 q) (by decide);clear f;go_wp2_with fail;go_ret;exact YN.no (λq=>(λq=>D.o q.2.2.1) ((kind_2 (v:=⟨kd,me,mo,id,te,de,fe,pr,ch,un,tg,ow,bp⟩) i.o).1 q)) C.o
  have S:Hid (Unt un):=f.1 rfl;clear f;have U:Hid (∀W,zC 187 #[.agg #[zI id,zI te,zI de,zI fe,zI pr,zI ch,zI un]] W λe w'=>YN W (Mony te de fe pr ch) e w'):=λW=>bmony id te de fe pr ch un W;go_wp2_with fail;refine(U.o _).mono ?_;rintro e W4 ⟨B,rfl,f,h⟩;have Q:=shB C h;have X:=shN H h;clear h;clear c0 c1 c2 k l m n p r s a b c;obtain⟨c0,c1,c2,k,l,m,n,p,r,s,a,b,c⟩:=scl13 X;cases B
  case false=>
   have D:Hid (¬ (Mony te de fe pr ch)):=λq=>absurd (f.2 q) (by decide);clear f;go_wp2_with fail;go_ret;exact YN.no (λq=>(λq=>D.o q.2.2.2) ((kind_2 (v:=⟨kd,me,mo,id,te,de,fe,pr,ch,un,tg,ow,bp⟩) i.o).1 q)) Q.o
  have Z:Hid (Mony te de fe pr ch):=f.1 rfl;clear f;go_wp2_with fail;go_ret;exact YN.yes ((kind_2 (v:=⟨kd,me,mo,id,te,de,fe,pr,ch,un,tg,ow,bp⟩) i.o).2 ⟨z,P.o,S.o,Z.o⟩) Q.o
 have q2:(kd==2)=false:=by simpa using I
 by_cases K:kd=3
 case pos=>
  have q3:(kd==3)=true:=by simpa using K
  have i:=zh K;clear F I K;have d:Hid (zC 161 #[zI 0,zI 2399,.slice (some ⟨x.heap.size,0,none⟩) 1 1] (x.alloc (.cells #[zI mo] 3)) λe w'=>e=.returned (.bool (decide (0≤mo∧mo≤2399)))∧w'=(x.alloc (.cells #[zI mo] 3))):=bki.within_one 0 2399 mo x _ rfl;have g:=zyf A (.cells #[zI mo] 3);have j:=zya E (.cells #[zI mo] 3);by_cases z:0≤mo∧mo≤2399
  case neg=>
   rw[decide_eq_false z] at d;go_wp2_with fail;refine d.o.mono ?_;rintro e W ⟨rfl,y⟩;subst y;go_wp2_with fail;go_ret;exact YN.no (λq=>(λq=>z q.1) ((kind_3 (v:=⟨kd,me,mo,id,te,de,fe,pr,ch,un,tg,ow,bp⟩) i.o).1 q)) g.o
  rw[decide_eq_true z] at d;go_wp2_with fail;refine d.o.mono ?_;rintro e W ⟨rfl,y⟩;subst y;clear c0 c1 c2 k l m n p r s a b c;generalize (x.alloc (.cells #[zI mo] 3))=J at *;obtain⟨c0,c1,c2,k,l,m,n,p,r,s,a,b,c⟩:=scl13 j;have L:Hid (∀W,zC 185 #[.agg #[zI kd,zI me,zI mo,zI id,zI te,zI de,zI fe,zI pr,zI ch,zI un,zI tg,zI ow,zI bp]] W λe w'=>YN W (Numd id tg) e w'):=λW=>bnum kd me mo id te de fe pr ch un tg ow bp W;go_wp2_with fail;refine(L.o _).mono ?_;rintro e Y ⟨B,rfl,f,h⟩;have t:=shB g h;have u:=shN j h;clear h;clear c0 c1 c2 k l m n p r s a b c;obtain⟨c0,c1,c2,k,l,m,n,p,r,s,a,b,c⟩:=scl13 u;cases B
  case false=>
   have D:Hid (¬ (Numd id tg)):=λq=>absurd (f.2 q) (by decide);clear f;go_wp2_with fail;go_ret;exact YN.no (λq=>(λq=>D.o q.2.1) ((kind_3 (v:=⟨kd,me,mo,id,te,de,fe,pr,ch,un,tg,ow,bp⟩) i.o).1 q)) t.o
  have P:Hid (Numd id tg):=f.1 rfl;clear f;have M:Hid (∀W,zC 186 #[.agg #[zI kd,zI me,zI mo,zI id,zI te,zI de,zI fe,zI pr,zI ch,zI un,zI tg,zI ow,zI bp]] W λe w'=>YN W (Unt un) e w'):=λW=>bunt kd me mo id te de fe pr ch un tg ow bp W;go_wp2_with fail;refine(M.o _).mono ?_;rintro e W3 ⟨B,rfl,f,h⟩;have C:=shB t h;have H:=shN u h;clear h;clear c0 c1 c2 k l m n p r s a b c;obtain⟨c0,c1,c2,k,l,m,n,p,r,s,a,b,c⟩:=scl13 H;cases B
  case false=>
   have D:Hid (¬ (Unt un)):=λq=>absurd (f.2 q) (by decide);clear f;go_wp2_with fail;go_ret;exact YN.no (λq=>(λq=>D.o q.2.2) ((kind_3 (v:=⟨kd,me,mo,id,te,de,fe,pr,ch,un,tg,ow,bp⟩) i.o).1 q)) C.o
  have S:Hid (Unt un):=f.1 rfl;clear f;go_wp2_with fail;go_ret;exact YN.yes ((kind_3 (v:=⟨kd,me,mo,id,te,de,fe,pr,ch,un,tg,ow,bp⟩) i.o).2 ⟨z,P.o,S.o⟩) C.o
 have q3:(kd==3)=false:=by simpa using K
 by_cases N:kd=4
 case pos=>
  have q4:(kd==4)=true:=by simpa using N
  have i:=zh N;clear F I K N;have T:Hid (∀W,zC 185 #[.agg #[zI kd,zI me,zI mo,zI id,zI te,zI de,zI fe,zI pr,zI ch,zI un,zI tg,zI ow,zI bp]] W λe w'=>YN W (Numd id tg) e w'):=λW=>bnum kd me mo id te de fe pr ch un tg ow bp W;go_wp2_with fail;refine(T.o _).mono ?_;rintro e J ⟨B,rfl,f,h⟩;have g:=shB A h;have j:=shN E h;clear h;clear c0 c1 c2 k l m n p r s a b c;obtain⟨c0,c1,c2,k,l,m,n,p,r,s,a,b,c⟩:=scl13 j;cases B
  case false=>
   have D:Hid (¬ (Numd id tg)):=λq=>absurd (f.2 q) (by decide);clear f;go_wp2_with fail;go_ret;exact YN.no (λq=>(λq=>D.o q) ((kind_4 (v:=⟨kd,me,mo,id,te,de,fe,pr,ch,un,tg,ow,bp⟩) i.o).1 q)) g.o
  have P:Hid (Numd id tg):=f.1 rfl;clear f;go_wp2_with fail;go_ret;exact YN.yes ((kind_4 (v:=⟨kd,me,mo,id,te,de,fe,pr,ch,un,tg,ow,bp⟩) i.o).2 P.o) g.o
 have q4:(kd==4)=false:=by simpa using N
 by_cases O:kd=5
 case pos=>
  have q5:(kd==5)=true:=by simpa using O
  have i:=zh O;clear F I K N O;have d:Hid (zC 161 #[zI 1,zI 1000000000,.slice (some ⟨x.heap.size,0,none⟩) 1 1] (x.alloc (.cells #[zI ow] 3)) λe w'=>e=.returned (.bool (decide (1≤ow∧ow≤1000000000)))∧w'=(x.alloc (.cells #[zI ow] 3))):=bki.within_one 1 1000000000 ow x _ rfl;have g:=zyf A (.cells #[zI ow] 3);have j:=zya E (.cells #[zI ow] 3);by_cases z:1≤ow∧ow≤1000000000
  case neg=>
   rw[decide_eq_false z] at d;go_wp2_with fail;refine d.o.mono ?_;rintro e W ⟨rfl,y⟩;subst y;go_wp2_with fail;go_ret;exact YN.no (λq=>(λq=>z q.1) ((kind_5 (v:=⟨kd,me,mo,id,te,de,fe,pr,ch,un,tg,ow,bp⟩) i.o).1 q)) g.o
  rw[decide_eq_true z] at d;go_wp2_with fail;refine d.o.mono ?_;rintro e W ⟨rfl,y⟩;subst y;clear c0 c1 c2 k l m n p r s a b c;generalize (x.alloc (.cells #[zI ow] 3))=J at *;obtain⟨c0,c1,c2,k,l,m,n,p,r,s,a,b,c⟩:=scl13 j;have G:Hid (zC 161 #[zI 0,zI 10000,.slice (some ⟨J.heap.size,0,none⟩) 1 1] (J.alloc (.cells #[zI bp] 3)) λe w'=>e=.returned (.bool (decide (0≤bp∧bp≤10000)))∧w'=(J.alloc (.cells #[zI bp] 3))):=bki.within_one 0 10000 bp J _ rfl;have t:=zyf g (.cells #[zI bp] 3);have u:=zya j (.cells #[zI bp] 3);by_cases R:0≤bp∧bp≤10000
  case neg=>
   rw[decide_eq_false R] at G;go_wp2_with fail;refine G.o.mono ?_;rintro e W ⟨rfl,y⟩;subst y;go_wp2_with fail;go_ret;exact YN.no (λq=>(λq=>R q.2) ((kind_5 (v:=⟨kd,me,mo,id,te,de,fe,pr,ch,un,tg,ow,bp⟩) i.o).1 q)) t.o
  rw[decide_eq_true R] at G;go_wp2_with fail;refine G.o.mono ?_;rintro e W ⟨rfl,y⟩;subst y;clear c0 c1 c2 k l m n p r s a b c;generalize (J.alloc (.cells #[zI bp] 3))=Y at *;obtain⟨c0,c1,c2,k,l,m,n,p,r,s,a,b,c⟩:=scl13 u;go_wp2_with fail;go_ret;exact YN.yes ((kind_5 (v:=⟨kd,me,mo,id,te,de,fe,pr,ch,un,tg,ow,bp⟩) i.o).2 ⟨z,R⟩) t.o
 have q5:(kd==5)=false:=by simpa using O
 have i:Hid (¬ KindR ⟨kd,me,mo,id,te,de,fe,pr,ch,un,tg,ow,bp⟩):=λq=>by
  rcases q with q|q|q|q|q
  ·exact F q
  ·exact I q.1
  ·exact K q.1
  ·exact N q.1
  ·exact O q.1
 clear F I K N O;go_wp2_with fail;go_ret;exact YN.no i.o A.o
def MustPost(w:World)(v:Ev)(e:Ending)(w':World):Prop:=((EMay v∧e=.returned (.tuple #[]))∨(¬ EMay v∧e=.panicked (thrown 5)))∧zB w w'
theorem eqEv_any(a b:Ev)(w:World):∃B,(Op.equalIn 10000 44 (.agg a.cs) (.agg b.cs)).run Tryz.prog w=.ok B w∧(B=true↔a=b):=by
 obtain⟨j,k,l,m,n,o,p,q,r,s,c,d,e⟩:=a;obtain⟨t,u,x,y,z,A,C,D,E,F,f,g,i⟩:=b;refine⟨_,eqEv 9997 j k l m n o p q r s c d e t u x y z A C D E F f g i w,?_⟩;rw[decide_eq_true_iff];constructor
 ·rintro⟨rfl,rfl,rfl,rfl,rfl,rfl,rfl,rfl,rfl,rfl,rfl,rfl,rfl⟩;rfl
 ·intro h;cases h;exact⟨rfl,rfl,rfl,rfl,rfl,rfl,rfl,rfl,rfl,rfl,rfl,rfl,rfl⟩
theorem bmust(v:Ev)(w:World):Calls Tryz.prog 119 #[.agg #[zI v.kd,zI v.me,zI v.mo,zI v.id,zI v.te,zI v.de,zI v.fe,zI v.pr,zI v.ch,zI v.un,zI v.tg,zI v.ow,zI v.bp]] w λe w'=>MustPost w v e w':=by
 have d:=zh (may_iff v);obtain⟨r,J,D,G,-⟩:=sh1 w #[zI v.kd,zI v.me,zI v.mo,zI v.id,zI v.te,zI v.de,zI v.fe,zI v.pr,zI v.ch,zI v.un,zI v.tg,zI v.ow,zI v.bp] 44;have f:Hid (∀W,zC 164 #[zI 5] W λe w'=>e=.panicked (thrown 5)∧w'=W):=λW=>insist_no 5 (by decide) W;have H:Hid (∀W,zC 162 #[.agg #[zI v.kd,zI v.me,zI v.mo,zI v.id,zI v.te,zI v.de,zI v.fe,zI v.pr,zI v.ch,zI v.un,zI v.tg,zI v.ow,zI v.bp]] W λe w'=>YN W (KindR v) e w'):=λW=>bkind v.kd v.me v.mo v.id v.te v.de v.fe v.pr v.ch v.un v.tg v.ow v.bp W;have I:Hid (∀W,zC 163 #[.agg #[zI v.kd,zI v.me,zI v.mo,zI v.id,zI v.te,zI v.de,zI v.fe,zI v.pr,zI v.ch,zI v.un,zI v.tg,zI v.ow,zI v.bp]] W λe w'=>e=.returned (leftE v).v∧zB W w'):=λW=>bleft v W;go_enter Tryz.func119,Tryz.ntmps119;go_upto_region 1 with fail
 rw[J.o];obtain⟨c0,c1,c2,h,i,j,k,l,m,n,a,b,c⟩:=scl13 D;have F:Hid (zC 161 #[zI 0,zI 49,.slice (some ⟨r.heap.size,0,none⟩) 1 1] (r.alloc (.cells #[zI v.me] 3)) λe w'=>e=.returned (.bool (decide (0≤v.me∧v.me≤49)))∧w'=(r.alloc (.cells #[zI v.me] 3))):=bki.within_one 0 49 v.me r _ rfl;have u:=zyf G (.cells #[zI v.me] 3);have g:=zya D (.cells #[zI v.me] 3);by_cases s:0≤v.me∧v.me≤49
 case neg=>
  rw[decide_eq_false s] at F;have C:Hid (¬ EMay v):=λq=>s (d.o.1 q).1;clear s;go_wp2_with fail;refine F.o.mono ?_;rintro e W ⟨rfl,L⟩;subst L;clear c0 c1 c2 h i j k l m n a b c;generalize (r.alloc (.cells #[zI v.me] 3))=Q at *;obtain⟨c0,c1,c2,h,i,j,k,l,m,n,a,b,c⟩:=scl13 g;go_wp2_with fail;refine(f.o _).mono ?_;rintro e M ⟨rfl,rfl⟩;exact⟨rfl,.inr ⟨C.o,rfl⟩,u.o⟩
 rw[decide_eq_true s] at F;have N:=zh s;clear s;go_wp2_with fail;refine F.o.mono ?_;rintro e W ⟨rfl,L⟩;subst L;clear c0 c1 c2 h i j k l m n a b c;generalize (r.alloc (.cells #[zI v.me] 3))=Q at *;obtain⟨c0,c1,c2,h,i,j,k,l,m,n,a,b,c⟩:=scl13 g;go_wp2_with fail;refine(H.o _).mono ?_;rintro e R ⟨B,rfl,p,t⟩;have x:=shB u t;have K:=shN g t;clear t;clear c0 c1 c2 h i j k l m n a b c;obtain⟨c0,c1,c2,h,i,j,k,l,m,n,a,b,c⟩:=scl13 K;cases B
 case false=>
  have C:Hid (¬ EMay v):=λq=>absurd (p.2 (d.o.1 q).2.1) (by decide);clear p;go_wp2_with fail;refine(f.o _).mono ?_;rintro e M ⟨rfl,rfl⟩;exact⟨rfl,.inr ⟨C.o,rfl⟩,x.o⟩
 have O:Hid (KindR v):=p.1 rfl;clear p;go_wp2_with fail;refine(I.o _).mono ?_;rintro e W3 ⟨rfl,t⟩;have y:=shB x t;clear t;clear c0 c1 c2 h i j k l m n a b c;obtain⟨B,p,E⟩:=eqEv_any (leftE v) ev0 W3;have A:=zh p;have z:=zh E;clear p E;unfold Ev.v;cases B
 case false=>
  have C:Hid (¬ EMay v):=λq=>absurd (z.o.2 (d.o.1 q).2.2) (by decide);go_wp2_with (first|(refine wp_neE (by rfl) 44 _ _ _ rfl (leftE v).cs ev0.cs rfl rfl (by kernel_rfl) false A.o _ rfl ?_)|fail)
  go_wp2_with fail;refine(f.o _).mono ?_;rintro e M ⟨rfl,rfl⟩;exact⟨rfl,.inr ⟨C.o,rfl⟩,y.o⟩
 case true=>
  have P:Hid (EMay v):=d.o.2 ⟨N.o,O.o,z.o.1 rfl⟩;go_wp2_with (first|(refine wp_neE (by rfl) 44 _ _ _ rfl (leftE v).cs ev0.cs rfl rfl (by kernel_rfl) true A.o _ rfl ?_)|fail)
  go_end0;exact⟨.inl ⟨P.o,rfl⟩,y.o⟩
open acc (Ac Tm Bi APost BPost TFault TRight OpenIs OweIs SellIs GrantIs RekeyIs wf6 ACame TCame fresh_updN fresh_drew came_lt)
variable{v:Ev}
theorem ev_me(h:EMay v):0≤v.me∧v.me≤49:=by unfold EMay at h;omega
theorem ev_kd(h:EMay v)(h1:v.kd≠1)(h5:v.kd≠5):v.kd=2∨v.kd=3∨v.kd=4:=by unfold EMay at h;omega
theorem ev_ow(h:EMay v):(Lit.int .i64 v.ow).wf=true∧(Lit.int .i64 v.bp).wf=true:=by
 have:(0≤v.ow∧v.ow≤1000000000)∧0≤v.bp∧v.bp≤10000:=by unfold EMay at h;omega
 exact⟨wf_i (by omega) (by omega),wf_i (by omega) (by omega)⟩
theorem charge_wr{w0:World}{base gW B:Nat}{t:Tm}{pt:Option Addr}{lt ct g n cap:Nat}{xs:List Cu}{bk:List Cm}{k:Nat}{y b:Ac}{sol:List So}{dp pb:Option Addr}{dn dc lb cb:Nat}{sp:Option Addr}{sn sc:Nat}{cur:Array Value}{w w1 WF:World}
  (h:Wr w0 base gW B t pt lt ct (.slice (some ⟨g,0,none⟩) n cap) xs bk w) (hk:k<xs.length) (hx:xs.getD k cu0=⟨y.me,y.rv,y.nx,y.mo,y.bo,y.fr,dp,dn,dc,sp,sn,sc⟩) (hc:bk.getD k cm0=⟨y,sol⟩) (hcb:Blk w g cur 71) (hcs:k*8+8≤cur.size) (hc7:cur[k*8+7]?=some (.slice sp sn sc))
  (hm:EMay v) (hh:HapIs t ⟨y,sol⟩ v ⟨b,sol⟩ 0) (hb:zB w w1) (hf:deb.Fresh w1 w.heap.size pb lb cb b.ds) (hU:Upd w1 WF g (putAll cur (k*8) [zI b.me,zI b.rv,zI b.nx,zI b.mo,zI b.bo,zI b.fr,.slice pb lb cb]) 71):
  WPost w0 base gW B t pt lt ct (HapR t bk k v) w (.returned (.tuple #[])) WF:=by
 have a:=h.hold.has k hk;have f:=h.hold.off k hk;rw[hc] at a;rw[hx] at a f;have r:∀i,(Value.slice sp sn sc).ownBlock=some i→i<w.heap.size∧base≤i∧i≠g:=λi c=>⟨(World.ownsRow.lt a.so i c).2,(World.ownsRow.lt a.so i c).1,λe=>f.1 i c (by rw[e];rfl)⟩;have G:base≤g:=(World.ownsRow.lt h.hold.row g rfl).1;have H:=hcb.lt;have C:=h.sz;have l:=hU.bel 0 w1 (Nat.zero_le _) zb;have A:∀i,i<w.heap.size→i≠g→WF.heap[i]?=w.heap[i]?:=λi s x=>by rw[hU.oth i x];exact hb.block i s
 have d:WF.os=w.os∧WF.tape=w.tape∧WF.output=w.output:=⟨l.os.trans hb.os,l.tape.trans hb.tape,l.output.trans hb.output⟩
 have u:w.heap.size≤WF.heap.size:=by rw[hU.size];exact hb.size
 have D:=hap_wf hh hm;refine⟨⟨d.1,d.2.1,d.2.2,u,λi s _ _=>A i (by omega) (by omega)⟩,.inl ⟨.slice (some ⟨g,0,none⟩) n cap,xs.set k ⟨b.me,b.rv,b.nx,b.mo,b.bo,b.fr,pb,lb,cb,sp,sn,sc⟩,bk.set k ⟨b,sol⟩,rfl,⟨⟨b,sol⟩,by rw[hc];exact hh,λ_=>rfl⟩,λz=>?_⟩⟩;refine put_wr h hk hx hcb (λi s x _=>A i s x) u d (x':=⟨b.me,b.rv,b.nx,b.mo,b.bo,b.fr,pb,lb,cb,sp,sn,sc⟩) ⟨⟨rfl,rfl,rfl,rfl,rfl,rfl⟩,⟨acc_upd hf.came hU (λm p o q=>by have:=hf.new m p o;omega),λm p o=>by have:=hf.new m p o;omega⟩,?_⟩ D.1 (by rw[hc];exact D.2) (λi c=> .inl c) (λm p o=>hf.new m p o) (λi c m p o q=>by have s:=(r i c).1;have x:=hf.new m p o;omega) ?_ z
 ·exact lo_upd (a.so.next hb) hU (λi c=>(r i c).2.2)
 ·have E:putAll cur (k*8) ([zI b.me,zI b.rv,zI b.nx,zI b.mo,zI b.bo,zI b.fr,.slice pb lb cb]++[.slice sp sn sc])=putAll cur (k*8) [zI b.me,zI b.rv,zI b.nx,zI b.mo,zI b.bo,zI b.fr,.slice pb lb cb]:=by
   rw[← putAll_more];apply Array.ext_getElem?;intro j;by_cases I:j=k*8+7
   ·subst I;rw[show k*8+([zI b.me,zI b.rv,zI b.nx,zI b.mo,zI b.bo,zI b.fr,.slice pb lb cb]:List Value).length=k*8+7 from rfl,Array.getElem?_setIfInBounds_self_of_lt (by rw[putAll_size];omega),putAll_get _ _ _ _ (by simp;omega),if_neg (by simp only[List.length_cons,List.length_nil];omega),hc7]
   ·rw[Array.getElem?_setIfInBounds_ne (by simp only[List.length_cons,List.length_nil];omega)]
  have F:(⟨b.me,b.rv,b.nx,b.mo,b.bo,b.fr,pb,lb,cb,sp,sn,sc⟩:Cu).cs=[zI b.me,zI b.rv,zI b.nx,zI b.mo,zI b.bo,zI b.fr,.slice pb lb cb]++[.slice sp sn sc]:=rfl;rw[F,E];exact hU.blk
theorem bhappen(w0:World)(base gW B:Nat)(t:Tm)(pt:Option Addr)(lt ct:Nat)(a:Option Addr)(n cap:Nat)(xs:List Cu)(bk:List Cm)(v:Ev)(w:World)(h:Wr w0 base gW B t pt lt ct (.slice a n cap) xs bk w)(ht:TCame w0 t pt lt ct):Calls Tryz.prog 108 #[.pointer (some ⟨gW,0,none⟩),.agg #[zI v.kd,zI v.me,zI v.mo,zI v.id,zI v.te,zI v.de,zI v.fe,zI v.pr,zI v.ch,zI v.un,zI v.tg,zI v.ow,zI v.bp]] w λe w'=>WPost w0 base gW B t pt lt ct (StepIs t bk v) w e w':=by
 have ah:Hid (∀W,zC 119 #[.agg #[zI v.kd,zI v.me,zI v.mo,zI v.id,zI v.te,zI v.de,zI v.fe,zI v.pr,zI v.ch,zI v.un,zI v.tg,zI v.ow,zI v.bp]] W λe w'=>MustPost W v e w'):=λW=>bmust v W;have HR:=zh h;have HT:=zh ht;have a8:=zh h.sz;clear h ht;obtain⟨W0,am,ad,ac,-⟩:=sh1 w #[zI v.kd,zI v.me,zI v.mo,zI v.id,zI v.te,zI v.de,zI v.fe,zI v.pr,zI v.ch,zI v.un,zI v.tg,zI v.ow,zI v.bp] 44;go_enter Tryz.func108,Tryz.ntmps108;go_upto_region 1 with fail
 rw[am.o];go_wp2_with refine zw ?_;refine(ah.o _).mono ?_;rintro e j ⟨Z,Q⟩;have s:=shN ad Q;have J:=shB ac Q;clear Q;rcases Z with⟨Z,rfl⟩|⟨Z,rfl⟩
 case inr=>
  exact⟨rfl,.of J.o a8.o,.inr ⟨5,[],by decide,rfl,.inl ⟨Z,rfl⟩⟩⟩
 have l:=zh Z;have ag:Hid (∀i,¬ Blk j w.heap.size i 71):=λi q=>by have H:j.heap[w.heap.size]?=_:=s.o;have Y:j.heap[w.heap.size]?=_:=q;rw[H] at Y;simp at Y
 clear Z;have d:=zh (HR.o.next J.o);have z:Hid (Kp base gW B w j):=.of J.o a8.o;have av:=s.o.lt;have c0:=zy0 s;have c1:=zy1 s;by_cases k1:v.kd=1
 case pos=>
  have q1:(v.kd==1)=true:=by simpa using k1
  have HK:=zh k1;clear k1;have ak:=zh (breg w0 base gW B t pt lt ct a n cap xs bk v.me j d.o (ev_me l.o));go_wp2_with fail;refine ak.o.mono ?_;intro e w9 V;have hq:=V.back (R':=StepIs t bk v) z.o (λb f hr=>by rcases hr with⟨H,rfl⟩|⟨H,rfl,rfl⟩;exact .inr (.inl ⟨l.o,HK.o,H,rfl⟩);exact .inr (.inr (.inl ⟨l.o,HK.o,H,rfl,rfl⟩)));have N:=zh hq;clear V hq;rcases N.o.2 with⟨V3,ar,P,rfl,_⟩|⟨f,P,_,rfl,_⟩
  ·go_wp2_with fail;go_end0;exact N.o
  ·exact⟨rfl,N.o⟩
 have q1:(v.kd==1)=false:=by simpa using k1
 have C:=zh k1;clear k1
 have af:Hid (zC 153 #[.pointer (some ⟨gW,0,none⟩),zI v.me] j λe w'=>CuPost j a bk v.me e w'):=by
  have hl:xs.length=n:=by obtain⟨_,_,hv,_⟩:=d.o.hold.row.row;injection hv with _ I _;exact I.symm
  refine bcust gW B t pt lt ct a n cap bk v.me j d.o.blk d.o.mp (by rw[← d.o.hold.len,hl]) (λhn=>?_) (by have:=d.o.few.1;have:=d.o.hold.len;omega);obtain⟨g,i,I,_⟩:=at_cust d.o.hold.row (k:=0) (by omega);exact⟨g,I⟩
 go_wp2_with fail;refine af.o.mono ?_;rintro e w9 ⟨aq,an⟩;obtain rfl:j=w9:=aq.symm;rcases an with⟨k,g,U,rfl,rfl⟩|⟨ap,rfl⟩
 case inr=>
  exact⟨rfl,z.o,.inr ⟨18,[],by decide,rfl,.inr (.inr (.inr (.inl ⟨l.o,C.o,ap,rfl⟩)))⟩⟩
 have M:=zh U;have A:Hid (k<xs.length):=by show _<_;rw[d.o.hold.len];exact U.1
 clear U;by_cases k5:v.kd=5
 case neg=>
  have q5:(v.kd==5)=false:=by simpa using k5
  have ai:=zh k5;clear k5;have al:=zh (bsell w0 base gW B t pt lt ct g n cap xs bk k v j d.o A.o HT.o l.o (ev_kd l.o C.o ai.o));generalize k*8=O at *;go_wp2_with refine zw ?_;refine al.o.mono ?_;intro e w9 V;have hq:=V.back (R':=StepIs t bk v) z.o (λb f hr=>by obtain⟨c',H,Y⟩:=hr;exact .inr (.inr (.inr (.inr ⟨l.o,C.o,k,c',M.o,H,Y⟩))));have N:=zh hq;clear V hq;rcases N.o.2 with⟨V3,ar,P,rfl,_⟩|⟨f,P,_,rfl,_⟩
  ·go_wp2_with fail;go_end0;exact N.o
  ·exact⟨rfl,N.o⟩
 have q5:(v.kd==5)=true:=by simpa using k5
 have a7:=zh k5;clear k5;have E:=d.o.hold.has k A.o;have D:wf6 (bk.getD k cm0).a:=d.o.wf _ (getD_in (by rw[← d.o.hold.len];exact A.o));obtain⟨c,hc⟩:∃c,bk.getD k cm0=c:=⟨_,rfl⟩
 obtain⟨x,hx⟩:∃x,xs.getD k cu0=x:=⟨_,rfl⟩
 obtain⟨g',i,I,ao,T,aa,m⟩:=at_cust d.o.hold.row A.o;obtain rfl:g=g':=by injection I with I;injection I
 clear I;rw[hc] at E D;rw[hx] at E m;obtain⟨y,X⟩:=c;obtain⟨dp,dn,dc,sp,sn,sc,rfl⟩:=cuA_of E.num;have HX:=zh hx;have HC:=zh hc;have p:=zh T;have L:Hid (k*8+8≤i.size):=aa;have au:=T.lt;have ab:g≠w.heap.size:=λq=>ag.o i (by rw[← q];exact T);have aj:Hid (zC 154 #[.agg #[zI y.me,zI y.rv,zI y.nx,zI y.mo,zI y.bo,zI y.fr,.slice dp dn dc],.agg #[zI v.ow,zI v.bp]] j.drew λe w'=>OwPost j.drew y ⟨v.ow,v.bp⟩ e w'):=bowing y dp dn dc ⟨v.ow,v.bp⟩ j.drew ⟨E.ds.came.below zb.drew,D⟩ (ev_ow l.o);have a0:Hid (i[k*8+0]?=some (zI y.me)):=m 0 (by decide);have a1:Hid (i[k*8+1]?=some (zI y.rv)):=m 1 (by decide);have G:Hid (i[k*8+2]?=some (zI y.nx)):=m 2 (by decide);have a2:Hid (i[k*8+3]?=some (zI y.mo)):=m 3 (by decide);have a3:Hid (i[k*8+4]?=some (zI y.bo)):=m 4 (by decide);have a4:Hid (i[k*8+5]?=some (zI y.fr)):=m 5 (by decide);have a5:Hid (i[k*8+6]?=some (.slice dp dn dc)):=m 6 (by decide);have a6:Hid (i[k*8+7]?=some (.slice sp sn sc)):=m 7 (by decide);clear m hx hc E D ao aa;obtain⟨O,hO⟩:∃O,k*8=O:=⟨_,rfl⟩
 have HO:Hid (k*8=O):=hO;rw[hO] at L a0 a1 G a2 a3 a4 a5 a6;rw[hO];clear hO;go_wp2_with fail;clear q1 q5 c0 c1;refine wp_region_held_drew (S:=λu=>Blk u w.heap.size #[zI v.kd,zI v.me,zI v.mo,zI v.id,zI v.te,zI v.de,zI v.fe,zI v.pr,zI v.ch,zI v.un,zI v.tg,zI v.ow,zI v.bp] 44) (by kernel_rfl) (show _ from Blk.drew s.o 1) (λr=>?_);have z0:j.drew.cell? ⟨g,O,none⟩=some (zI y.me):=(p.o.cell (O+0)).trans a0.o;have z1:j.drew.cell? ⟨g,O+1,none⟩=some (zI y.rv):=(p.o.cell (O+1)).trans a1.o;have z2:j.drew.cell? ⟨g,O+2,none⟩=some (zI y.nx):=(p.o.cell (O+2)).trans G.o;have z3:j.drew.cell? ⟨g,O+3,none⟩=some (zI y.mo):=(p.o.cell (O+3)).trans a2.o;have z4:j.drew.cell? ⟨g,O+4,none⟩=some (zI y.bo):=(p.o.cell (O+4)).trans a3.o;have z5:j.drew.cell? ⟨g,O+5,none⟩=some (zI y.fr):=(p.o.cell (O+5)).trans a4.o;have z6:j.drew.cell? ⟨g,O+6,none⟩=some (.slice dp dn dc):=(p.o.cell (O+6)).trans a5.o;refine zt' 0 (.pointer (some ⟨g,O,none⟩)) ?_;refine zt' 1 (.pointer (some ⟨g,O,none⟩)) ?_;refine zt' 2 (.pointer (some ⟨g,O,none⟩)) ?_;refine zt' 3 (.pointer (some ⟨g,O,none⟩)) ?_;refine zt' 5 (.pointer (some ⟨w.heap.size,11,none⟩)) ?_;refine zu' 6 (.agg #[zI v.ow,zI v.bp]) rfl rfl (Or.inl ⟨by rfl,λv hv=>by have g0:=hv.cell 11;have g1:=hv.cell 12;clear hv;go_simp⟩) ?_;refine zo 4 λK F=>?_;rw[if_pos (by rfl)];refine wp_runOp (v:=.agg #[zI y.me,zI y.rv,zI y.nx,zI y.mo,zI y.bo,zI y.fr,.slice dp dn dc]) (w':=j.drew) 25 rfl (by clear F;go_simp) ?_;refine F.o _ _ (Blk.drew s.o 1) (λr=>?_);clear F K z0 z1 z2 z3 z4 z5 z6;simp only[Act.put,zq];refine zo 7 λK F=>?_;rw[if_pos (by rfl)];refine wp_callOpP 28 rfl (by clear F;go_simp) aj.o ?_;rintro e w2 ⟨Q,V⟩;rcases V with⟨b,pb,lb,cb,rfl,hi,hf⟩|⟨b,f,hf,rfl,hi⟩
 case inr=>
  exact .inr ⟨_,rfl,rfl,z.o.trans (.of ((Below.refl j.heap.size j).drew.trans Q) d.o.sz),.inr ⟨f,[],hf,rfl,.inr (.inr (.inr (.inr ⟨l.o,C.o,k,⟨y,X⟩,M.o,by rw[HC.o];exact .inl ⟨a7.o,b,hi,λq=>absurd q hf⟩,λq=>absurd q hf⟩)))⟩⟩
 refine .inl ⟨_,rfl,?_⟩;have R:=(Below.refl j.heap.size j).drew.trans Q;obtain⟨a9,G⟩:=zn2 R s p;have ae:=zh R;have HI:=zh hi;have HF:=zh hf;refine F.o _ _ a9.o (λr=>?_);clear F K hi hf Q R;unfold acc.Ac.v acc.Ac.cs;simp only[Act.put,zq];refine zt' 8 (.pointer (some ⟨g,O,none⟩)) ?_;refine zt' 9 (.pointer (some ⟨g,O,none⟩)) ?_;refine zo 10 λK F=>?_;rw[if_pos (by rfl)];refine wp_letOpN 55 _ _ rfl g O rfl (.agg #[zI b.me,zI b.rv,zI b.nx,zI b.mo,zI b.bo,zI b.fr,.slice pb lb cb]) rfl #[zI b.me,zI b.rv,zI b.nx,zI b.mo,zI b.bo,zI b.fr,.slice pb lb cb] rfl (by kernel_rfl) (by simp[Value.oneCell']) i 71 G.o (by have:=L.o;simp;omega) (putAll i O [zI b.me,zI b.rv,zI b.nx,zI b.mo,zI b.bo,zI b.fr,.slice pb lb cb]) rfl rfl ?_;intro WF hU;have M1:=zh (hU.keep a9.o (Ne.symm ab))
 have MF:Hid (WPost w0 base gW B t pt lt ct (StepIs t bk v) w (.returned (.tuple #[])) WF):=by
  have hh:HapIs t ⟨y,X⟩ v ⟨b,X⟩ 0:=.inl ⟨a7.o,b,HI.o,λ_=>rfl⟩;refine(charge_wr d.o A.o HX.o HC.o p.o (by rw[HO.o];exact L.o) (by rw[HO.o];exact a6.o) l.o hh ae.o HF.o (by rw[HO.o];exact hU)).back z.o (λbb f hr=>?_);obtain⟨c',H,Y⟩:=hr;exact .inr (.inr (.inr (.inr ⟨l.o,C.o,k,c',M.o,H,Y⟩)))
 refine F.o _ _ M1.o (λr=>?_);clear F K hU;refine wpAnyH_done (by kernel_rfl) ?_ _;clear r;go_wp2_with fail;go_end0;exact MF.o
end book
end Go.Proofs.YtoepgdhiepedeaaGreatDoor
