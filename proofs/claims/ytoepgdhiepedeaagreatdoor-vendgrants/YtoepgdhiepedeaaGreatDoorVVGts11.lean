import Derived.Test.YtoepgdhiepedeaaGreatDoorVVGts9
import Derived.Test.YtoepgdhiepedeaaGreatDoorVVGts10
set_option linter.unusedVariables false
set_option linter.unusedSimpArgs false
set_option maxHeartbeats 4000000
set_option maxRecDepth 100000
namespace Go.Proofs.YtoepgdhiepedeaaGreatDoor
section
open Go.RowKit
theorem wp_runOp{P:Program}{o:Oper}{a:Act}{w w':World}{v:Value}{K:Act→World→Prop}{Q:Exit→Act→World→Prop}(d:Nat)(hd:o.dst=some d)(hrun:(execOp a.eval o).run P w=.ok (.value v) w')(h:K (a.put (some d) v) w'):o.wp P a w K Q:=by
 rw[← hd] at h;unfold Oper.wp;rw[hrun,Oper.upon_value];exact h
theorem wp_callOp{P:Program}{o:Oper}{a:Act}{w:World}{f:FuncId}{args:Array Value}{R:Ending→World→Prop}{K:Act→World→Prop}{Q:Exit→Act→World→Prop}(d:Nat)(hd:o.dst=some d)(hrun:(execOp a.eval o).run P w=.ok (.enter f args) w)(hc:Calls P f args w R)
  (h:∀e w',R e w'→∃v,e=.returned v∧K (a.put (some d) v) w'):o.wp P a w K Q:=by
 rw[← hd] at h;unfold Oper.wp;rw[hrun,Oper.upon_enter];refine hc.mono λe w' c=>?_;obtain⟨v,rfl,b⟩:=h e w' c;exact b
end
namespace rcp
open Go.RowKit
def Rc.cs(r:Rc):Array Value:=#[zI r.me,zI r.id,zI r.te,zI r.de,zI r.fe,zI r.pr,zI r.ch,zI r.un,.string ⟨r.tk.toArray⟩]
def Rc.v(r:Rc):Value:=.agg r.cs
end rcp
namespace deb
open tar (Du du0 Came RowD Ld ErrPost TwoPost PairT GaveD)
open Go.RowKit
theorem raged(x b:Int)(m:Nat)(w:World)(hx:0≤x∧x≤1000000000)(hb:0≤b∧b≤10000)(hm:m≤2400):Calls Tryz.prog 134 #[.agg #[zI x,zI b],zI (m:Int)] w λe w'=>e=.returned (.agg #[zI (growN b m x),zI b])∧zB w w':=by
 obtain⟨J,K⟩:=hx;obtain⟨l,n⟩:=hb;have t:Hid (Blk ((w.alloc (.cells #[zI x,zI b] 42)).alloc (.cells #[zI 0,zI 0] 42)) (w.heap.size) #[zI x,zI b] 42):=(Blk.new w _ _).alloc _;have A:Hid (Blk ((w.alloc (.cells #[zI x,zI b] 42)).alloc (.cells #[zI 0,zI 0] 42)) (w.heap.size+1) #[zI 0,zI 0] 42):=Blk.new1 w _ _ _;have s:Hid (zB w ((w.alloc (.cells #[zI x,zI b] 42)).alloc (.cells #[zI 0,zI 0] 42))):=((Below.refl w.heap.size w).alloc (by simp) _).alloc (by simp) _;go_enter Tryz.func134,Tryz.ntmps134;go_wp2_with fail;go_loopw [5] (λz wr=>∃k:Nat,k≤m∧z=zI (k:Int)∧Blk wr w.heap.size #[zI (growN b k x),zI b] 42∧Blk wr (w.heap.size+1) #[zI 0,zI 0] 42∧zB w wr) (λz _=>m-(intOf z).toNat)
 case atStart=>exact⟨0,Nat.zero_le _,rfl,t.o,A.o,s.o⟩
 case round=>
  obtain⟨k,hk,rfl,O,P,Q⟩:=hrel;have L:=zh O;have R:=zh P;have M:=zh Q;clear O P Q;have I:=growN_bd l n J K k;by_cases V:k<m
  ·have H:decide ((k:Int)<(m:Int))=true:=by simp;omega
   have N:Hid (growN b (k+1) x=grow b (growN b k x)):=rfl;have T:0≤growN b k x:=by omega
   have U:=I.2;generalize growN b k x=u at *;have q:=prod_le u b 1000000000 10000 T U l n;have W:IntKind.i64.wrap (u*b)=u*b:=by rw[IntKind.wrap_i64];omega
   have hq:Int.tdiv (u*b) 10000=u*b/10000:=Int.tdiv_eq_ediv_of_nonneg q.1;have X:0≤u*b/10000:=by omega
   have Y:u*b/10000≤1000000000:=by omega
   have g:Hid (grow b u=min 1000000000 (u+u*b/10000)):=rfl;generalize u*b/10000=y at *;have c0:=zy0 L;have c1:=zy1 L;clear I q;go_wp2_with refine zl ?_;intro Z c;have h:=zyb c;have i:=zk1 c R;have j:=zk c M;have S:=zy0 h;clear c c0 c1;by_cases a:1000000000<u+y
   ·have G:decide (1000000000<u+y)=true:=decide_eq_true a;have d:Hid (growN b (k+1) x=1000000000):=by show _=_;rw[N.o,g.o];omega
    go_wp2_with refine zl ?_;intro W2 r;have D:=zyb r;have E:=zk1 r i;have F:=zk r j;clear r S a;go_wp2_with fail;go_roundw
    case rel=>exact⟨k+1,by omega,by go_num,by rw[d.o];exact D.o,E.o,F.o⟩
    case measure=>simp[intOf];omega
   ·have G:decide (1000000000<u+y)=false:=decide_eq_false a;have d:Hid (growN b (k+1) x=u+y):=by show _=_;rw[N.o,g.o];omega
    clear a;go_wp2_with fail;go_roundw
    case rel=>exact⟨k+1,by omega,by go_num,by rw[d.o];exact h.o,i.o,j.o⟩
    case measure=>simp[intOf];omega
  ·obtain rfl:k=m:=by omega
   have H:decide ((k:Int)<(k:Int))=false:=by simp
   generalize p:growN b k x=u at *;have C:=zh p;clear p I;go_wp2_with (first|refine zw ?_|refine zs ?_)
   intro WF c;have f:=zyb c;have B:=zk c M;clear c;go_wp2_with fail;exact zr (.agg #[zI u,zI b]) (by simp[results,Tryz.results134,zy0 f,zy1 f,go_sem]) ⟨by rw[C.o],B.o⟩
theorem rages(a:Option Addr)(len cap:Nat)(ls:List Du)(mo:Int)(w:World)(hr:RowD w a len ls)(hl:len≤maxLen):Calls Tryz.prog 88 #[.slice a len cap,zI mo] w λe w'=>AgePost w ls mo e w':=by
 have a0:=zh (rfault a len cap ls w hr hl);have j:Hid (∀W,zC 47 #[zI mo,zI 0,zI 2400] W λe w'=>e=.returned (.bool (decide (0≤mo∧mo≤2400)))∧w'=W):=λW=>cal.cin mo 0 2400 W;have r:=hr.1;go_enter Tryz.func88,Tryz.ntmps88;go_wp2_with fail;refine a0.o.mono ?_;rintro e w1 ⟨f,rfl,hf,a9⟩;subst a9;have HF:=zh hf;by_cases R:f=0
 ·subst R;have hm:=hf.ok.1 rfl;have Q:=zh hm;have q:=zh r;have ab:len≤8:=by have:=hm.1;omega
  have G:=zh hr;clear hf hm hr hl r;by_cases c:0≤mo∧mo≤2400
  ·rw[decide_eq_true c] at j;have t:=zh c;obtain⟨m,rfl⟩:=Int.eq_ofNat_of_zero_le c.1;have a7:m≤2400:=by omega
   have a1:Hid ((m:Int).toNat=m):=by show _=_;omega
   clear c;go_wp2_with fail;refine(j.o _).mono ?_;rintro e g ⟨rfl,D⟩;subst D;go_wp2_with fail;go_loopw [7,8] (λu z wr=>∃(k:Nat)(V:Value),k≤len∧z=zI (k:Int)∧V=u∧Ld 42 wr g.heap.size V (ageAll (ls.take k) m)∧zB g wr) (λ_ z _=>len-(intOf z).toNat)
   case atStart=>exact⟨0,_,Nat.zero_le _,rfl,rfl,tar.Ld.zero _ _ _,zb⟩
   case round=>
    obtain⟨k,V,hk,rfl,hV,O,J⟩:=hrel;subst hV;have n:=zh J;have a2:=zh O;by_cases C:k<len
    ·have a6:decide ((k:Int)<(len:Int))=true:=by simp;omega
     have B:k<ls.length:=by rw[q.o];exact C
     obtain⟨b,l,rfl,K,hc⟩:=G.o.at (by omega);have c0:wr.cell? ⟨b,l+k*2,none⟩=some (zI (ls.getD k du0).a):=(J.cell (p:=⟨b,l+k*2,none⟩) K).trans (hc k C).1;have c1:wr.cell? ⟨b,l+k*2+1,none⟩=some (zI (ls.getD k du0).b):=(J.cell (p:=⟨b,l+k*2+1,none⟩) K).trans (hc k C).2;have ho:=Q.o.2 k B;have S:Hid (∀W,zC 134 #[.agg #[zI (ls.getD k du0).a,zI (ls.getD k du0).b],zI (m:Int)] W λe w'=>e=.returned (.agg #[zI (growN (ls.getD k du0).b m (ls.getD k du0).a),zI (ls.getD k du0).b])∧zB W w'):=λW=>raged _ _ m W ho.1 ho.2 a7;have a5:=zh (ageAll_take ls m k B);have aa:(ageAll (ls.take k) m).length≤1000000:=by rw[ageAll_len,List.length_take];omega
     clear hc J O ho B;generalize ageAll (ls.take k) m=Z at *;generalize growN (ls.getD k du0).b m (ls.getD k du0).a=d at *;generalize (ls.getD k du0).a=x at *;generalize (ls.getD k du0).b=y at *;go_wp2_with fail;refine(S.o _).mono ?_;rintro e i ⟨rfl,A⟩;have F:=shB n A;have a4:=zh (a2.o.next A);have E:=zyf F (.cells #[zI d,zI y] 42);have HU:Hid (Ld 42 (i.alloc (.cells #[zI d,zI y] 42)) g.heap.size V Z):=a4.o.alloc _;clear A c0 c1;have s:Hid (zB g ((i.alloc (.cells #[zI d,zI y] 42)).alloc (.cells #[zI d,zI y] 42))):=E.o.alloc E.o.size _;have H:Hid (Ld 42 ((i.alloc (.cells #[zI d,zI y] 42)).alloc (.cells #[zI d,zI y] 42)) g.heap.size V Z):=HU.o.alloc _;have X:Hid (((i.alloc (.cells #[zI d,zI y] 42)).alloc (.cells #[zI d,zI y] 42)).cell? ⟨i.heap.size+1,0,none⟩=some (zI d)∧((i.alloc (.cells #[zI d,zI y] 42)).alloc (.cells #[zI d,zI y] 42)).cell? ⟨i.heap.size+1,1,none⟩=some (zI y)):=⟨(Blk.new1 i _ _ _).cell 0,(Blk.new1 i _ _ _).cell 1⟩
     go_wp2_with (first
      |(at_builtin;refine tar.wp_pair debtT rfl _ _ rfl g.heap.size (i.heap.size+1) V Z ⟨d,y⟩ rfl rfl H.o X.o aa s.o.size ?_)
      | fail)
     intro v3 w3 h3 M;have U:Hid (zB g w3):=tar.own_bel H.o M s.o zc s.o.size;have H3:=zh h3;clear h3 M;go_wp2_with fail;go_roundw
     case rel=>exact⟨k+1,v3,by omega,by go_num,by first|rfl|trivial,by rw[a5.o];exact H3.o,U.o⟩
     case measure=>simp[intOf];omega
    ·obtain rfl:k=len:=by omega
     have a6:decide ((k:Int)<(k:Int))=false:=by simp
     have N:ls.take k=ls:=List.take_of_length_le (by rw[q.o];exact zc);rw[N] at O;obtain⟨a3,I,a8,L⟩:=ld_fresh O (ageAll_mays Q.o m);subst a8;have Y:=zh L;have T:Hid (AgeIs ls (m:Int) (ageAll ls m) 0):=.inr (.inr ⟨Q.o,t.o,rfl,by rw[a1.o]⟩);clear J O L N;generalize (ageAll ls m).length=P at *;generalize ageAll ls m=Z at *;go_wp2_with fail;go_ret2;exact⟨a3,P,I,Z,0,rfl,T.o,Y.o,n.o⟩
  ·rw[decide_eq_false c] at j;have t:=zh c;clear c;go_wp2_with fail;refine(j.o _).mono ?_;rintro e g ⟨rfl,D⟩;subst D;go_wp2_with fail;go_ret2;exact⟨none,0,0,[],2,rfl,.inr (.inl ⟨Q.o,t.o,rfl,rfl⟩),fresh_nil _ _,zb⟩
 ·have ac:(f != 0)=true:=by simpa using R
  have HN:Hid (¬ Mays ls):=λh=>R (hf.ok.2 h);clear hf R hr hl;go_wp2_with fail;go_ret2;exact⟨none,0,0,[],f,rfl,.inl ⟨HN.o,HF.o,rfl⟩,fresh_nil _ _,zb⟩
end deb
section
open Go.RowKit
theorem wp_wholeG{P:Program}{ops:Array Oper}{rest:List Oper}{o:Oper}{a:Act}{w:World}{Q:Exit→Act→World→Prop}(hw:Region.wanted o (yielded ops a.tmps)=true)(ty:TypeId)(x:Operand)(ho:o.op=.load ty x)
  (g:Nat) (hx:a.eval x=.pointer (some ⟨g,0,none⟩)) (t:TypeId) (cs:Array Value) (d:TypeDesc) (hB:Blk w g cs t)
  (hu:P.underlying ty=some d) (hd:d.isRow=true) (hi:(P.info? ty).map (·.size)=some cs.size)
  (h:wpList P ops Q rest (a.put o.dst (.agg cs)) w):wpList P ops Q (o::rest) a w:=
 wpList_step λK hK=>by
  rw[if_pos hw]
  exact wp_load_mid (P:=P) (op:=o) (a:=a) (w:=w) (K:=K) (Q:=Q) ty x ho g 0 hx cs.toList d (λj v hv=>by rw[Nat.zero_add,hB.cell j];simpa using hv) hu hd (by simpa using hi) (by simpa using hK _ _ h)
end
section
open Go.RowKit
theorem zg {P : Program} {ops : Array Oper} {rest : List Oper} {o : Oper} {a : Act} {w : World} {Q : Exit → Act → World → Prop} {ty : TypeId} {x : Operand} {g : Nat} {t : TypeId} {cs : Array Value}
 (h : wpList P ops Q rest (a.put o.dst (.agg cs)) w) (hw : Region.wanted o (yielded ops a.tmps) = true := by exact rfl) (ho : o.op = .load ty x := by exact rfl) (hx : a.eval x = .pointer (some ⟨g, 0, none⟩) := by exact rfl)
 (hB : Hid (Blk w g cs t) := by assumption) (hr : zqr P ty cs.size := by first|exact zqu24|exact zqu28|exact zqu33|exact zqu35|exact zqu42|exact zqu44|exact zqu55|exact zqu61|exact zqu65|exact zqu71|exact zqu73|exact zqu93|exact zqu132|exact zqu170|exact zqu183|exact zqu212) : wpList P ops Q (o :: rest) a w := by
 obtain ⟨d, h1, h2, h3⟩ := hr
 exact wp_wholeG hw ty x ho g hx t cs d hB.out h1 (by cases d <;> first | rfl | exact h2 | exact absurd h2 (by simp)) h3 h
end
namespace met
open Go.RowKit ora
def Alive(w:World)(a:Option Addr):Prop:=∀y,a=some y→y.block<w.heap.size
theorem Alive.none(w:World):Alive w none:=λy h=>by cases h
end met
namespace book
open Go.RowKit
theorem bnum(kd me mo id te de fe pr ch un tg ow bp:Int)(w:World):Calls Tryz.prog 185 #[.agg #[zI kd,zI me,zI mo,zI id,zI te,zI de,zI fe,zI pr,zI ch,zI un,zI tg,zI ow,zI bp]] w λe w'=>YN w (Numd id tg) e w':=by
 obtain⟨m,C,a,B,-⟩:=sh1 w #[zI kd,zI me,zI mo,zI id,zI te,zI de,zI fe,zI pr,zI ch,zI un,zI tg,zI ow,zI bp] 44;go_enter Tryz.func185,Tryz.ntmps185;go_upto_region 1 with fail
 rw[C.o];have c0:=zy0 a;have c1:=zy1 a;have c2:=zy2 a;have p:=zy3 a;have r:=zy4 a;have s:=zy5 a;have t:=zy6 a;have u:=zy7 a;have x:=zy8 a;have y:=zy9 a;have g:=zy10 a;have h:=zy11 a;have i:=zy12 a;have d:Hid (zC 161 #[zI 1,zI 1048575,.slice (some ⟨m.heap.size,0,none⟩) 1 1] (m.alloc (.cells #[zI id] 3)) λe w'=>e=.returned (.bool (decide (1≤id∧id≤1048575)))∧w'=(m.alloc (.cells #[zI id] 3))):=bki.within_one 1 1048575 id m _ rfl;have k:=zyf B (.cells #[zI id] 3);have b:=zya a (.cells #[zI id] 3);by_cases z:1≤id∧id≤1048575
 case neg=>
  rw[decide_eq_false z] at d;go_wp2_with fail;refine d.o.mono ?_;rintro e W ⟨rfl,j⟩;subst j;go_wp2_with fail;go_ret;exact YN.no (λq=>z q.1) k.o
 rw[decide_eq_true z] at d;go_wp2_with fail;refine d.o.mono ?_;rintro e W ⟨rfl,j⟩;subst j;clear c0 c1 c2 p r s t u x y g h i;generalize (m.alloc (.cells #[zI id] 3))=n at *;have c0:=zy0 b;have c1:=zy1 b;have c2:=zy2 b;have p:=zy3 b;have r:=zy4 b;have s:=zy5 b;have t:=zy6 b;have u:=zy7 b;have x:=zy8 b;have y:=zy9 b;have g:=zy10 b;have h:=zy11 b;have i:=zy12 b;have f:Hid (zC 161 #[zI 0,zI 65535,.slice (some ⟨n.heap.size,0,none⟩) 1 1] (n.alloc (.cells #[zI tg] 3)) λe w'=>e=.returned (.bool (decide (0≤tg∧tg≤65535)))∧w'=(n.alloc (.cells #[zI tg] 3))):=bki.within_one 0 65535 tg n _ rfl;have l:=zyf k (.cells #[zI tg] 3);have c:=zya b (.cells #[zI tg] 3);by_cases A:0≤tg∧tg≤65535
 case neg=>
  rw[decide_eq_false A] at f;go_wp2_with fail;refine f.o.mono ?_;rintro e W ⟨rfl,j⟩;subst j;go_wp2_with fail;go_ret;exact YN.no (λq=>A q.2) l.o
 rw[decide_eq_true A] at f;go_wp2_with fail;refine f.o.mono ?_;rintro e W ⟨rfl,j⟩;subst j;clear c0 c1 c2 p r s t u x y g h i;generalize (n.alloc (.cells #[zI tg] 3))=D at *;have c0:=zy0 c;have c1:=zy1 c;have c2:=zy2 c;have p:=zy3 c;have r:=zy4 c;have s:=zy5 c;have t:=zy6 c;have u:=zy7 c;have x:=zy8 c;have y:=zy9 c;have g:=zy10 c;have h:=zy11 c;have i:=zy12 c;go_wp2_with fail;go_ret;exact YN.yes (⟨z,A⟩) l.o
theorem bunt(kd me mo id te de fe pr ch un tg ow bp:Int)(w:World):Calls Tryz.prog 186 #[.agg #[zI kd,zI me,zI mo,zI id,zI te,zI de,zI fe,zI pr,zI ch,zI un,zI tg,zI ow,zI bp]] w λe w'=>YN w (Unt un) e w':=by
 obtain⟨f,l,a,k,-⟩:=sh1 w #[zI kd,zI me,zI mo,zI id,zI te,zI de,zI fe,zI pr,zI ch,zI un,zI tg,zI ow,zI bp] 44;go_enter Tryz.func186,Tryz.ntmps186;go_upto_region 1 with fail
 rw[l.o];have c0:=zy0 a;have c1:=zy1 a;have c2:=zy2 a;have n:=zy3 a;have p:=zy4 a;have r:=zy5 a;have s:=zy6 a;have t:=zy7 a;have u:=zy8 a;have x:=zy9 a;have g:=zy10 a;have h:=zy11 a;have i:=zy12 a;have c:Hid (zC 161 #[zI 1,zI 2097151,.slice (some ⟨f.heap.size,0,none⟩) 1 1] (f.alloc (.cells #[zI un] 3)) λe w'=>e=.returned (.bool (decide (1≤un∧un≤2097151)))∧w'=(f.alloc (.cells #[zI un] 3))):=bki.within_one 1 2097151 un f _ rfl;have d:=zyf k (.cells #[zI un] 3);have b:=zya a (.cells #[zI un] 3);by_cases j:1≤un∧un≤2097151
 case neg=>
  rw[decide_eq_false j] at c;go_wp2_with fail;refine c.o.mono ?_;rintro e W ⟨rfl,m⟩;subst m;go_wp2_with fail;go_ret;exact YN.no (λq=>j q) d.o
 rw[decide_eq_true j] at c;go_wp2_with fail;refine c.o.mono ?_;rintro e W ⟨rfl,m⟩;subst m;clear c0 c1 c2 n p r s t u x g h i;generalize (f.alloc (.cells #[zI un] 3))=y at *;have c0:=zy0 b;have c1:=zy1 b;have c2:=zy2 b;have n:=zy3 b;have p:=zy4 b;have r:=zy5 b;have s:=zy6 b;have t:=zy7 b;have u:=zy8 b;have x:=zy9 b;have g:=zy10 b;have h:=zy11 b;have i:=zy12 b;go_wp2_with fail;go_ret;exact YN.yes (j) d.o
theorem bmony(id te de fe pr ch un:Int)(w:World):Calls Tryz.prog 187 #[.agg #[zI id,zI te,zI de,zI fe,zI pr,zI ch,zI un]] w λe w'=>YN w (Mony te de fe pr ch) e w':=by
 obtain⟨j,x,h,u,-⟩:=sh1 w #[zI id,zI te,zI de,zI fe,zI pr,zI ch,zI un] 33;go_enter Tryz.func187,Tryz.ntmps187;go_upto_region 1 with fail
 rw[x.o];obtain⟨c0,c1,c2,n,p,r,s⟩:=scl7 h;have a:Hid (zC 161 #[zI 1,zI 100000000,.slice (some ⟨j.heap.size,0,none⟩) 1 1] (j.alloc (.cells #[zI te] 3)) λe w'=>e=.returned (.bool (decide (1≤te∧te≤100000000)))∧w'=(j.alloc (.cells #[zI te] 3))):=bki.within_one 1 100000000 te j _ rfl;have g:=zyf u (.cells #[zI te] 3);have i:=zya h (.cells #[zI te] 3);by_cases l:1≤te∧te≤100000000
 case neg=>
  rw[decide_eq_false l] at a;go_wp2_with fail;refine a.o.mono ?_;rintro e W ⟨rfl,d⟩;subst d;go_wp2_with fail;go_ret;exact YN.no (λq=>l q.1) g.o
 rw[decide_eq_true l] at a;go_wp2_with fail;refine a.o.mono ?_;rintro e W ⟨rfl,d⟩;subst d;clear c0 c1 c2 n p r s;generalize (j.alloc (.cells #[zI te] 3))=k at *;obtain⟨c0,c1,c2,n,p,r,s⟩:=scl7 i;have b:Hid (zC 161 #[zI 0,zI 100000000,.slice (some ⟨k.heap.size,0,none⟩) 4 4] (k.alloc (.cells #[zI de,zI fe,zI pr,zI ch] 3)) λe w'=>e=.returned (.bool (bki.okAll 0 100000000 [de,fe,pr,ch]))∧w'=(k.alloc (.cells #[zI de,zI fe,zI pr,zI ch] 3))):=bki.within_any 0 100000000 _ 4 4 [de,fe,pr,ch] _ (bki.row_four k de fe pr ch 3) (by decide);have c:=zyf g (.cells #[zI de,zI fe,zI pr,zI ch] 3);have y:=zya i (.cells #[zI de,zI fe,zI pr,zI ch] 3);by_cases m:bki.okAll 0 100000000 [de,fe,pr,ch]=true
 case neg=>
  rw[show bki.okAll 0 100000000 [de,fe,pr,ch]=false by simpa using m] at b;go_wp2_with fail;refine b.o.mono ?_;rintro e W ⟨rfl,d⟩;subst d;go_wp2_with fail;go_ret;exact YN.no (λq=>m (by simpa [bki.okAll] using q.2.1)) c.o
 rw[m] at b;go_wp2_with fail;refine b.o.mono ?_;rintro e W ⟨rfl,d⟩;subst d;clear c0 c1 c2 n p r s;generalize (k.alloc (.cells #[zI de,zI fe,zI pr,zI ch] 3))=D at *;obtain⟨c0,c1,c2,n,p,r,s⟩:=scl7 y;have z:(0≤de∧de≤100000000)∧(0≤fe∧fe≤100000000)∧(0≤pr∧pr≤100000000)∧0≤ch∧ch≤100000000:=by simpa [bki.okAll] using m
 have E:IntKind.i64.wrap (de+fe)=de+fe:=by rw[IntKind.wrap_i64];omega
 have F:IntKind.i64.wrap (de+fe+pr)=de+fe+pr:=by rw[IntKind.wrap_i64];omega
 have G:IntKind.i64.wrap (de+fe+pr+ch)=de+fe+pr+ch:=by rw[IntKind.wrap_i64];omega
 have B:=zh z;have A:=zh l;clear z m l;by_cases f:de+fe+pr+ch=te
 ·have C:((de+fe+pr+ch)==te)=true:=by simpa using f
  have t:=zh f;clear f;go_wp2_with fail;go_ret;exact YN.yes ⟨A.o,B.o,t.o⟩ c.o
 ·have C:((de+fe+pr+ch)==te)=false:=by simpa using f
  have t:=zh f;clear f;go_wp2_with fail;go_ret;exact YN.no (λq=>t.o q.2.2) c.o
open cell
def DecGot(w:World)(l:List Int)(e:Ending)(w':World):Prop:=∃v f,e=.returned (.tuple #[Ev.v v,zI f])∧DecIs l v f∧zB w w'
def KDec:Prop:=∀(W:World)(a:Option Addr)(n cap:Nat)(l:List Int),RowU W a n l→(a=none→cap=0)→n≤cap→n*4≤140737488351232→(∀x∈l,0≤x∧x<4294967296)→zC 105 #[.slice a n cap] W λe w'=>DecGot W l e w'
end book
namespace tar
open Go.RowKit
open Classical in
theorem kcheck:KtCheck:=by
 intro w a n cap ls hcame;have hr:=hcame.row;have hn:=hcame.most;clear hcame;have hlen:=hr.1;have HIU:Hid (∀x W,zC 102 #[zI 1,zI 10000000,zI x] W λe w'=>e=.returned (.bool (decide (1≤x∧x≤10000000)))∧w'=W):=λx W=>pwithin 1 10000000 x W;have HIP:Hid (∀x W,zC 102 #[zI 1,zI 100000,zI x] W λe w'=>e=.returned (.bool (decide (1≤x∧x≤100000)))∧w'=W):=λx W=>pwithin 1 100000 x W;by_cases hs:1≤n∧n≤8
 ·have HS:Hid (Sized ls):=by show 1≤ls.length∧ls.length≤8;rw[hlen];exact hs
  obtain⟨hs1,hs2⟩:=hs;have hd0:((n:Int)==0)=false:=by simp;omega
  have hd8:decide ((8:Int)<(n:Int))=false:=by simp;omega
  obtain⟨b,off,rfl,hbl,hc⟩:=hr.at hs1;have HC:Hid (∀i,i<n→w.cell? ⟨b,off+i*2,none⟩=some (zI (ls.getD i du0).a)∧w.cell? ⟨b,off+i*2+1,none⟩=some (zI (ls.getD i du0).b)):=hc;have HLEN:Hid (ls.length=n):=hlen;have HRS:Hid (∀W,zB w W→zC 146 #[.slice (some ⟨b,off,none⟩) n cap] W λe w'=>e=.returned (.bool (decide (Rises ls)))∧zB W w'):=λW hW=>prises b off n cap ls W hs1 hs2 hlen (Nat.lt_of_lt_of_le hbl hW.size) (λi hi=>⟨(hW.cell (p:=⟨b,off+i*2,none⟩) hbl).trans (hc i hi).1,(hW.cell (p:=⟨b,off+i*2+1,none⟩) hbl).trans (hc i hi).2⟩);have hnm:n≤9223372036854775807:=by omega
  clear hc hr hn hlen;go_enter Tryz.func101,Tryz.ntmps101;go_wp2_with fail;go_loopw [15] (λx wr=>∃k:Nat,k≤n∧x=zI (k:Int)∧(∀i,i<k→(1≤(ls.getD i du0).a∧(ls.getD i du0).a≤10000000)∧1≤(ls.getD i du0).b∧(ls.getD i du0).b≤100000)∧zB w wr) (λx _=>n-(intOf x).toNat)
  case atStart=>exact⟨0,Nat.zero_le _,rfl,λi hi=>absurd hi (Nat.not_lt_zero _),zb⟩
  case round=>
   obtain⟨k,hk,rfl,hf,hb⟩:=hrel;have HF:Hid (∀i,i<k→(1≤(ls.getD i du0).a∧(ls.getD i du0).a≤10000000)∧1≤(ls.getD i du0).b∧(ls.getD i du0).b≤100000):=hf;have HB:Hid (zB w wr):=hb;clear hf;by_cases hlt:k<n
   ·have hdl:decide ((k:Int)<(n:Int))=true:=by simp;omega
    have c0:wr.cell? ⟨b,off+k*2,none⟩=some (zI (ls.getD k du0).a):=(hb.cell (p:=⟨b,off+k*2,none⟩) hbl).trans (HC.o k hlt).1;have c1:wr.cell? ⟨b,off+k*2+1,none⟩=some (zI (ls.getD k du0).b):=(hb.cell (p:=⟨b,off+k*2+1,none⟩) hbl).trans (HC.o k hlt).2;have HBA:Hid (∀o,zB w (wr.alloc o)):=λo=>hb.alloc hb.size o;clear hb;have HU:=HIU.o (ls.getD k du0).a;have HP:=HIP.o (ls.getD k du0).b;by_cases hu:1≤(ls.getD k du0).a∧(ls.getD k du0).a≤10000000
    ·rw[decide_eq_true hu] at HU;by_cases hp:1≤(ls.getD k du0).b∧(ls.getD k du0).b≤100000
     ·rw[decide_eq_true hp] at HP
      have HF2:Hid (∀i,i<k+1→(1≤(ls.getD i du0).a∧(ls.getD i du0).a≤10000000)∧1≤(ls.getD i du0).b∧(ls.getD i du0).b≤100000):=λi hi=>by
       by_cases e:i=k
       ·subst e;exact⟨hu,hp⟩
       ·exact HF.o i (by omega)
      have HU2:Hid (∀W,zC 102 #[zI 1,zI 10000000,zI (ls.getD k du0).a] W λe w'=>e=.returned (.bool true)∧w'=W):=HU;have HP2:Hid (∀W,zC 102 #[zI 1,zI 100000,zI (ls.getD k du0).b] W λe w'=>e=.returned (.bool true)∧w'=W):=HP;clear hu hp;generalize (ls.getD k du0).a=x at *;generalize (ls.getD k du0).b=y at *;go_wp2_with fail;refine(HU2.o _).mono ?_;rintro e w2 ⟨rfl,hw2⟩;subst w2;go_wp2_with fail;refine(HP2.o _).mono ?_;rintro e w2 ⟨rfl,hw2⟩;subst w2;go_wp2_with fail;go_roundw
      case rel=>exact⟨k+1,by omega,by go_num,HF2.o,HBA.o _⟩
      case measure=>simp[intOf];omega
     ·rw[decide_eq_false hp] at HP;have HN:Hid (¬ Fits ls):=λh=>hp (h k (by rw[HLEN.o];exact hlt)).2;have HU2:Hid (∀W,zC 102 #[zI 1,zI 10000000,zI (ls.getD k du0).a] W λe w'=>e=.returned (.bool true)∧w'=W):=HU;have HP2:Hid (∀W,zC 102 #[zI 1,zI 100000,zI (ls.getD k du0).b] W λe w'=>e=.returned (.bool false)∧w'=W):=HP;clear hu hp;generalize (ls.getD k du0).a=x at *;generalize (ls.getD k du0).b=y at *;go_wp2_with fail;refine(HU2.o _).mono ?_;rintro e w2 ⟨rfl,hw2⟩;subst w2;go_wp2_with fail;refine(HP2.o _).mono ?_;rintro e w2 ⟨rfl,hw2⟩;subst w2;go_wp2_with fail;go_ret;exact⟨_,rfl,.inr (.inl ⟨HS.o,HN.o,rfl⟩),HBA.o _⟩
    ·rw[decide_eq_false hu] at HU;have HN:Hid (¬ Fits ls):=λh=>hu (h k (by rw[HLEN.o];exact hlt)).1;have HU2:Hid (∀W,zC 102 #[zI 1,zI 10000000,zI (ls.getD k du0).a] W λe w'=>e=.returned (.bool false)∧w'=W):=HU;clear hu;generalize (ls.getD k du0).a=x at *;generalize (ls.getD k du0).b=y at *;go_wp2_with fail;refine(HU2.o _).mono ?_;rintro e w2 ⟨rfl,hw2⟩;subst w2;go_wp2_with fail;go_ret;exact⟨_,rfl,.inr (.inl ⟨HS.o,HN.o,rfl⟩),HBA.o _⟩
   ·obtain rfl:k=n:=by omega
    have hdl:decide ((k:Int)<(k:Int))=false:=by simp
    have HFT:Hid (Fits ls):=λi hi=>HF.o i (by rw[HLEN.o] at hi;exact hi);have HR:=HRS.o wr hb;clear hb;have HE:Hid (Ends ls↔(ls.getD (k-1) du0).a=10000000):=by show Ends ls↔_;unfold Ends;rw[HLEN.o]
    have HC1:Hid (∀W,zB wr W→W.cell? ⟨b,off+(k-1)*2,none⟩=some (zI (ls.getD (k-1) du0).a)):=λW hW=>((HB.o.trans (hW.mono HB.o.size)).cell (p:=⟨b,off+(k-1)*2,none⟩) hbl).trans (HC.o (k-1) (by omega)).1;have hsub:((k:Int)-1)=((k-1:Nat):Int):=by omega
    have hjm:k-1<k:=by omega
    by_cases hri:Rises ls
    ·rw[decide_eq_true hri] at HR;have HR2:Hid (zC 146 #[.slice (some ⟨b,off,none⟩) k cap] wr λe w'=>e=.returned (.bool true)∧zB wr w'):=HR;have HRI:Hid (Rises ls):=hri;clear hri;go_wp2_with fail;refine HR2.o.mono ?_;rintro e w2 ⟨rfl,hw2⟩;have c1:=HC1.o w2 hw2;have HB2:=shB HB hw2;clear hw2;by_cases he:(ls.getD (k-1) du0).a=10000000
     ·have HRT:Hid (Right ls):=⟨HS.o,HFT.o,HRI.o,HE.o.2 he⟩
      have hne:((ls.getD (k-1) du0).a != 10000000)=false:=by rw[he];rfl
      clear he;generalize (ls.getD (k-1) du0).a=y at *;generalize k-1=j1 at *;go_wp2_with fail;go_ret;exact⟨_,rfl,.inr (.inr (.inr ⟨HRT.o,rfl⟩)),HB2.o⟩
     ·have HN:Hid (¬ (Rises ls∧Ends ls)):=λh=>he (HE.o.1 h.2);have hne:((ls.getD (k-1) du0).a != 10000000)=true:=by simpa using he
      clear he;generalize (ls.getD (k-1) du0).a=y at *;generalize k-1=j1 at *;go_wp2_with fail;go_ret;exact⟨_,rfl,.inr (.inr (.inl ⟨HS.o,HFT.o,HN.o,rfl⟩)),HB2.o⟩
    ·rw[decide_eq_false hri] at HR;have HR2:Hid (zC 146 #[.slice (some ⟨b,off,none⟩) k cap] wr λe w'=>e=.returned (.bool false)∧zB wr w'):=HR;have HN:Hid (¬ (Rises ls∧Ends ls)):=λh=>hri h.1;clear hri;go_wp2_with fail;refine HR2.o.mono ?_;rintro e w2 ⟨rfl,hw2⟩;have HB2:=shB HB hw2;clear hw2;generalize k-1=j1 at *;go_wp2_with fail;go_ret;exact⟨_,rfl,.inr (.inr (.inl ⟨HS.o,HFT.o,HN.o,rfl⟩)),HB2.o⟩
 ·have HS:Hid (¬ Sized ls):=by show ¬ (1≤ls.length∧ls.length≤8);rw[hlen];exact hs
  have hnm:n≤9223372036854775807:=by unfold maxLen at hn;omega
  clear hr hlen hn;by_cases h0:n=0
  ·subst h0;clear hs hnm;go_enter Tryz.func101,Tryz.ntmps101;go_wp2_with fail;go_ret;exact⟨_,rfl,.inl ⟨HS.o,rfl⟩,zb⟩
  ·have hd0:((n:Int)==0)=false:=by simp;omega
   have hd8:decide ((8:Int)<(n:Int))=true:=by simp;omega
   clear hs h0;go_enter Tryz.func101,Tryz.ntmps101;go_wp2_with fail;go_ret;exact⟨_,rfl,.inl ⟨HS.o,rfl⟩,zb⟩
end tar
namespace acc
open tar (Du du0 Came RowD Ld PairT)
open Go.RowKit
theorem kcheck:KcCheck:=by
 intro w t A lt z G;have h:=G.ts;unfold Tm.v;have g:Hid (∀W,zC 66 #[zI 0,zI 100000,zI t.ff] W λe l=>e=.returned (.bool (decide (0≤t.ff∧t.ff≤100000)))∧l=W):=λW=>awithin 0 100000 t.ff W;have i:Hid (∀W,zC 66 #[zI 0,zI 10000,zI t.fb] W λe l=>e=.returned (.bool (decide (0≤t.fb∧t.fb≤10000)))∧l=W):=λW=>awithin 0 10000 t.fb W;have j:Hid (∀W,zC 66 #[zI 0,zI 10000,zI t.db] W λe l=>e=.returned (.bool (decide (0≤t.db∧t.db≤10000)))∧l=W):=λW=>awithin 0 10000 t.db W;have k:Hid (∀W,zC 66 #[zI 0,zI 2097151,zI t.al] W λe l=>e=.returned (.bool (decide (0≤t.al∧t.al≤2097151)))∧l=W):=λW=>awithin 0 2097151 t.al W;obtain⟨F,E,u,s,-⟩:=sh1 w #[.slice A lt z,zI t.ff,zI t.fb,zI t.db,zI t.al] 24;have D:Hid (zC 101 #[.slice A lt z] F λe l=>tar.ErrPost F (tar.FaultIs t.ts) e l):=tar.kcheck _ A lt z t.ts (h.below s.o);have c0:F.cell? ⟨w.heap.size,0,none⟩=some (.slice A lt z):=u.o.cell 0;clear h G;go_enter Tryz.func97,Tryz.ntmps97;go_upto_region 1 with fail
 rw[E.o];go_wp2_with fail;refine D.o.mono ?_;rintro e K ⟨f,rfl,hf,m⟩;have c:=shB s m;have C:=shN u m;have B:Hid (tar.FaultIs t.ts f):=hf;clear hf m c0;obtain⟨c0,c1,c2,H,I⟩:=scl5 C;by_cases y:f=0
 ·have x:Hid (tar.Right t.ts):=B.o.ok.1 y;subst y;by_cases n:0≤t.ff∧t.ff≤100000
  ·rw[decide_eq_true n] at g;go_wp2_with fail;refine(g.o _).mono ?_;rintro e b ⟨rfl,a⟩;subst b;by_cases p:0≤t.fb∧t.fb≤10000
   ·rw[decide_eq_true p] at i;go_wp2_with fail;refine(i.o _).mono ?_;rintro e b ⟨rfl,a⟩;subst b;by_cases q:0≤t.db∧t.db≤10000
    ·rw[decide_eq_true q] at j;go_wp2_with fail;refine(j.o _).mono ?_;rintro e b ⟨rfl,a⟩;subst b;by_cases r:0≤t.al∧t.al≤2097151
     ·rw[decide_eq_true r] at k;go_wp2_with fail;refine(k.o _).mono ?_;rintro e b ⟨rfl,a⟩;subst b;have d:Hid (TFault t 0):=.inr (.inr ⟨⟨x.o,n,p,q,r⟩,rfl⟩);clear n p q r;go_wp2_with fail;go_ret;exact⟨0,rfl,d.o,c.o⟩
     ·rw[decide_eq_false r] at k;have d:Hid (TFault t 2):=.inr (.inl ⟨x.o,λh=>r h.2.2.2,rfl⟩);clear r;go_wp2_with fail;refine(k.o _).mono ?_;rintro e b ⟨rfl,a⟩;subst b;go_wp2_with fail
      all_goals first
       |(rename_i q1 q2;exact absurd q1 (by simp[undef]))
       |(go_ret;exact⟨2,rfl,d.o,c.o⟩)
    ·rw[decide_eq_false q] at j;have d:Hid (TFault t 2):=.inr (.inl ⟨x.o,λh=>q h.2.2.1,rfl⟩);clear q;go_wp2_with fail;refine(j.o _).mono ?_;rintro e b ⟨rfl,a⟩;subst b;go_wp2_with fail
     all_goals first
      |(rename_i q1 q2;exact absurd q1 (by simp[undef]))
      |(go_ret;exact⟨2,rfl,d.o,c.o⟩)
   ·rw[decide_eq_false p] at i;have d:Hid (TFault t 2):=.inr (.inl ⟨x.o,λh=>p h.2.1,rfl⟩);clear p;go_wp2_with fail;refine(i.o _).mono ?_;rintro e b ⟨rfl,a⟩;subst b;go_wp2_with fail
    all_goals first
     |(rename_i q1 q2;exact absurd q1 (by simp[undef]))
     |(go_ret;exact⟨2,rfl,d.o,c.o⟩)
  ·rw[decide_eq_false n] at g;have d:Hid (TFault t 2):=.inr (.inl ⟨x.o,λh=>n h.1,rfl⟩);clear n;go_wp2_with fail;refine(g.o _).mono ?_;rintro e b ⟨rfl,a⟩;subst b;go_wp2_with fail
   all_goals first
    |(rename_i q1 q2;exact absurd q1 (by simp[undef]))
    |(go_ret;exact⟨2,rfl,d.o,c.o⟩)
 ·have J:(f != 0)=true:=by simpa using y
  have d:Hid (TFault t f):=.inl ⟨λh=>y (B.o.ok.2 h),B.o⟩;clear y;go_wp2_with fail;go_ret;exact⟨f,rfl,d.o,c.o⟩
end acc
end Go.Proofs.YtoepgdhiepedeaaGreatDoor
