import Derived.Test.YtoepgdhiepedeaaGreatDoorVVGts2
import Derived.Test.YtoepgdhiepedeaaGreatDoorVVGts8
set_option linter.unusedVariables false
set_option linter.unusedSimpArgs false
set_option maxHeartbeats 4000000
set_option maxRecDepth 100000
namespace Go.Proofs.YtoepgdhiepedeaaGreatDoor
namespace tar
open Go.RowKit
theorem rfault(a:Option Addr)(n cap:Nat)(ls:List Du)(w:World)(hr:RowD w a n ls)(hn:n≤maxLen):Calls Tryz.prog 87 #[.slice a n cap] w λe w'=>ErrPost w (FaultIs ls) e w':=by
 have g:=hr.1;have l:Hid (∀W,zC 47 #[zI (n:Int),zI 1,zI 8] W λe w'=>e=.returned (.bool (decide (1≤(n:Int)∧(n:Int)≤8)))∧w'=W):=λW=>cal.cin n 1 8 W;have P:Hid (∀x W,zC 47 #[zI x,zI 1,zI 10000000] W λe w'=>e=.returned (.bool (decide (1≤x∧x≤10000000)))∧w'=W):=λx W=>cal.cin x 1 10000000 W;have O:Hid (∀x W,zC 47 #[zI x,zI 1,zI 100000] W λe w'=>e=.returned (.bool (decide (1≤x∧x≤100000)))∧w'=W):=λx W=>cal.cin x 1 100000 W;by_cases X:1≤n∧n≤8
 ·have F:Hid (Sized ls):=by show 1≤ls.length∧ls.length≤8;rw[g];exact X
  rw[decide_eq_true (show 1≤(n:Int)∧(n:Int)≤8 by omega)] at l;obtain⟨T,a8⟩:=X;obtain⟨b,f,rfl,H,hc⟩:=hr.at T;have N:Hid (∀i,i<n→w.cell? ⟨b,f+i*2,none⟩=some (zI (ls.getD i du0).a)∧w.cell? ⟨b,f+i*2+1,none⟩=some (zI (ls.getD i du0).b)):=hc;have c:Hid (ls.length=n):=g;have a5:n≤9223372036854775807:=by omega
  clear hc hr hn g;go_enter Tryz.func87,Tryz.ntmps87;go_wp2_with fail;refine(l.o _).mono ?_;rintro e z ⟨rfl,J⟩;subst J;go_wp2_with fail;go_loopw [3] (λx wr=>∃k:Nat,k≤n∧x=zI (k:Int)∧(∀i,i<k→(1≤(ls.getD i du0).a∧(ls.getD i du0).a≤10000000)∧1≤(ls.getD i du0).b∧(ls.getD i du0).b≤100000)∧wr=z) (λx _=>n-(intOf x).toNat)
  case atStart=>exact⟨0,Nat.zero_le _,rfl,λi S=>absurd S (Nat.not_lt_zero _),rfl⟩
  case round=>
   obtain⟨k,hk,rfl,hf,a9⟩:=hrel;have r:Hid (∀i,i<k→(1≤(ls.getD i du0).a∧(ls.getD i du0).a≤10000000)∧1≤(ls.getD i du0).b∧(ls.getD i du0).b≤100000):=hf;subst wr;clear hf;by_cases s:k<n
   ·have a1:decide ((k:Int)<(n:Int))=true:=by simp;omega
    have c0:=(N.o k s).1;have c1:=(N.o k s).2;have t:=P.o (ls.getD k du0).a;have D:=O.o (ls.getD k du0).b;by_cases I:1≤(ls.getD k du0).a∧(ls.getD k du0).a≤10000000
    ·rw[decide_eq_true I] at t;by_cases L:1≤(ls.getD k du0).b∧(ls.getD k du0).b≤100000
     ·rw[decide_eq_true L] at D
      have A:Hid (∀i,i<k+1→(1≤(ls.getD i du0).a∧(ls.getD i du0).a≤10000000)∧1≤(ls.getD i du0).b∧(ls.getD i du0).b≤100000):=λi S=>by
       by_cases e:i=k
       ·subst e;exact⟨I,L⟩
       ·exact r.o i (by omega)
      have m:Hid (∀W,zC 47 #[zI (ls.getD k du0).a,zI 1,zI 10000000] W λe w'=>e=.returned (.bool true)∧w'=W):=t;have E:Hid (∀W,zC 47 #[zI (ls.getD k du0).b,zI 1,zI 100000] W λe w'=>e=.returned (.bool true)∧w'=W):=D;clear t D I L r;generalize (ls.getD k du0).a=x at *;generalize (ls.getD k du0).b=y at *;go_wp2_with fail;refine(m.o _).mono ?_;rintro e Y ⟨rfl,d⟩;subst d;go_wp2_with fail;refine(E.o _).mono ?_;rintro e Y ⟨rfl,d⟩;subst d;go_wp2_with fail;go_roundw
      case rel=>exact⟨k+1,by omega,by go_num,A.o,by first|rfl|trivial⟩
      case measure=>simp[intOf];omega
     ·rw[decide_eq_false L] at D;have C:Hid (¬ Fits ls):=λh=>L (h k (by rw[c.o];exact s)).2;have m:Hid (∀W,zC 47 #[zI (ls.getD k du0).a,zI 1,zI 10000000] W λe w'=>e=.returned (.bool true)∧w'=W):=t;have E:Hid (∀W,zC 47 #[zI (ls.getD k du0).b,zI 1,zI 100000] W λe w'=>e=.returned (.bool false)∧w'=W):=D;clear t D I L r;generalize (ls.getD k du0).a=x at *;generalize (ls.getD k du0).b=y at *;go_wp2_with fail;refine(m.o _).mono ?_;rintro e Y ⟨rfl,d⟩;subst d;go_wp2_with fail;refine(E.o _).mono ?_;rintro e Y ⟨rfl,d⟩;subst d;go_wp2_with fail;go_ret;exact⟨_,rfl,.inr (.inl ⟨F.o,C.o,rfl⟩),zb⟩
    ·rw[decide_eq_false I] at t;have C:Hid (¬ Fits ls):=λh=>I (h k (by rw[c.o];exact s)).1;have m:Hid (∀W,zC 47 #[zI (ls.getD k du0).a,zI 1,zI 10000000] W λe w'=>e=.returned (.bool false)∧w'=W):=t;clear t D I r;generalize (ls.getD k du0).a=x at *;generalize (ls.getD k du0).b=y at *;go_wp2_with fail;refine(m.o _).mono ?_;rintro e Y ⟨rfl,d⟩;subst d;go_wp2_with fail;go_ret;exact⟨_,rfl,.inr (.inl ⟨F.o,C.o,rfl⟩),zb⟩
   ·obtain rfl:k=n:=by omega
    have a1:decide ((k:Int)<(k:Int))=false:=by simp
    have B:Hid (Fits ls):=λi S=>r.o i (by rw[c.o] at S;exact S);clear r P O l;go_wp2_with fail;go_loopw [4] (λx a6=>∃j:Nat,1≤j∧j≤k∧x=zI (j:Int)∧(∀i,1≤i→i<j→(ls.getD (i-1) du0).a<(ls.getD i du0).a)∧zB z a6) (λx _=>k-(intOf x).toNat)
    case atStart=>exact⟨1,zc,T,rfl,λi V Q=>absurd Q (by omega),zb⟩
    case round=>
     obtain⟨j,a2,hj,rfl,hf,G⟩:=hrel;have r:Hid (∀i,1≤i→i<j→(ls.getD (i-1) du0).a<(ls.getD i du0).a):=hf;have HB:Hid (zB z wr):=G;by_cases u:j<k
     ·have R:decide ((j:Int)<(k:Int))=true:=by simp;omega
      have c0:wr.cell? ⟨b,f+j*2,none⟩=some (zI (ls.getD j du0).a):=(G.cell (p:=⟨b,f+j*2,none⟩) H).trans (N.o j u).1;have c1:wr.cell? ⟨b,f+(j-1)*2,none⟩=some (zI (ls.getD (j-1) du0).a):=(G.cell (p:=⟨b,f+(j-1)*2,none⟩) H).trans (N.o (j-1) (by omega)).1;have a7:wr.drew.cell? ⟨b,f+j*2,none⟩=some (zI (ls.getD j du0).a):=c0;have M:Hid (zB z wr.drew):=G.drew;have U:((j:Int)-1)=((j-1:Nat):Int):=by omega
      have a3:j-1<k:=by omega
      clear G hf;by_cases q:(ls.getD j du0).a≤(ls.getD (j-1) du0).a
      ·have a0:decide ((ls.getD j du0).a≤(ls.getD (j-1) du0).a)=true:=decide_eq_true q;have C:Hid (¬ (Rises ls∧Ends ls)):=rise_not a2 (by rw[c.o];exact u) q;clear q;generalize (ls.getD j du0).a=x at *;generalize (ls.getD (j-1) du0).a=y at *;generalize j-1=j1 at *;go_wp2_with fail;go_region
       all_goals go_wp2_with fail
       go_ret;exact⟨_,rfl,.inr (.inr (.inl ⟨F.o,B.o,C.o,rfl⟩)),M.o⟩
      ·have a0:decide ((ls.getD j du0).a≤(ls.getD (j-1) du0).a)=false:=decide_eq_false q
       have A:Hid (∀i,1≤i→i<j+1→(ls.getD (i-1) du0).a<(ls.getD i du0).a):=λi V Q=>by
        by_cases e:i=j
        ·subst e;omega
        ·exact r.o i V (by omega)
       clear q;generalize (ls.getD j du0).a=x at *;generalize (ls.getD (j-1) du0).a=y at *;generalize j-1=j1 at *;go_wp2_with fail;go_region
       all_goals go_wp2_with fail
       go_roundw
       case rel=>exact⟨j+1,by omega,by omega,by go_num,A.o,M.o⟩
       case measure=>simp[intOf];omega
     ·obtain rfl:j=k:=by omega
      have R:decide ((j:Int)<(j:Int))=false:=by simp
      have HR:Hid (Rises ls):=λi V Q=>r.o i V (by rw[c.o] at Q;exact Q);have c1:wr.cell? ⟨b,f+(j-1)*2,none⟩=some (zI (ls.getD (j-1) du0).a):=(G.cell (p:=⟨b,f+(j-1)*2,none⟩) H).trans (N.o (j-1) (by omega)).1;have U:((j:Int)-1)=((j-1:Nat):Int):=by omega
      have a3:j-1<j:=by omega
      have HE:Hid (Ends ls↔(ls.getD (j-1) du0).a=10000000):=by show Ends ls↔_;unfold Ends;rw[c.o]
      clear G hf;by_cases K:(ls.getD (j-1) du0).a=10000000
      ·have Z:Hid (Right ls):=⟨F.o,B.o,HR.o,HE.o.2 K⟩
       have a4:((ls.getD (j-1) du0).a != 10000000)=false:=by rw[K];rfl
       clear K;generalize (ls.getD (j-1) du0).a=y at *;generalize j-1=j1 at *;go_wp2_with fail;go_ret;exact⟨_,rfl,.inr (.inr (.inr ⟨Z.o,rfl⟩)),HB.o⟩
      ·have C:Hid (¬ (Rises ls∧Ends ls)):=λh=>K (HE.o.1 h.2);have a4:((ls.getD (j-1) du0).a != 10000000)=true:=by simpa using K
       clear K;generalize (ls.getD (j-1) du0).a=y at *;generalize j-1=j1 at *;go_wp2_with fail;go_ret;exact⟨_,rfl,.inr (.inr (.inl ⟨F.o,B.o,C.o,rfl⟩)),HB.o⟩
 ·have F:Hid (¬ Sized ls):=by show ¬ (1≤ls.length∧ls.length≤8);rw[g];exact X
  rw[decide_eq_false (show ¬ (1≤(n:Int)∧(n:Int)≤8) by omega)] at l;have a5:n≤9223372036854775807:=by unfold maxLen at hn;omega
  clear X hr g hn;go_enter Tryz.func87,Tryz.ntmps87;go_wp2_with fail;refine(l.o _).mono ?_;rintro e z ⟨rfl,J⟩;subst J;go_wp2_with fail;go_ret;exact⟨_,rfl,.inl ⟨F.o,rfl⟩,zb⟩
end tar
namespace deb
open tar (Du du0 Came RowD Ld ErrPost TwoPost PairT GaveD)
open Go.RowKit
theorem part_split(a b:Int):a/10000*b+a%10000*b/10000=a*b/10000:=by
 have e:a*b=a/10000*b*10000+a%10000*b:=by
  have h:=Int.emod_add_mul_ediv a 10000;have c:a*b=(a%10000+10000*(a/10000))*b:=by rw[h]
  rw[c,Int.add_mul,Int.mul_assoc,Int.mul_comm 10000,Int.add_comm]
 rw[e];generalize a/10000*b=x;generalize a%10000*b=y;omega
theorem rparted(a b:Int)(w:World)(h:(0≤a∧a≤1000000000000)∧0≤b∧b≤10000):
  Calls Tryz.prog 49 #[zI a,zI b] w λe w'=>e=.returned (.tuple #[zI (a*b/10000),zI 0])∧w'=w:=by
 have d:Hid (∀W,zC 47 #[zI a,zI 0,zI 1000000000000] W λe w'=>e=.returned (.bool (decide (0≤a∧a≤1000000000000)))∧w'=W):=λW=>cal.cin a 0 1000000000000 W;have f:Hid (∀W,zC 47 #[zI b,zI 0,zI 10000] W λe w'=>e=.returned (.bool (decide (0≤b∧b≤10000)))∧w'=W):=λW=>cal.cin b 0 10000 W;rw[decide_eq_true h.1] at d;rw[decide_eq_true h.2] at f;obtain⟨⟨k,l⟩,g,i⟩:=h;obtain⟨m,n⟩:=prod_le (a/10000) b 100000000 10000 (by omega) (by omega) g i;obtain⟨p,q⟩:=prod_le (a%10000) b 10000 10000 (by omega) (by omega) g i;rw[← part_split];go_enter Tryz.func49,Tryz.ntmps49;go_wp2_with fail;refine(d.o _).mono ?_;rintro e j ⟨rfl,c⟩;subst c;go_wp2_with fail;refine(f.o _).mono ?_;rintro e j ⟨rfl,c⟩;subst c;go_wp2;go_ret2;exact⟨rfl,rfl⟩
theorem rnopart(a b:Int)(w:World)(h:0≤a∧a≤1000000000000)(hb:¬ (0≤b∧b≤10000)):
  Calls Tryz.prog 49 #[zI a,zI b] w λe w'=>e=.returned (.tuple #[zI 0,zI 2])∧w'=w:=by
 have d:Hid (∀W,zC 47 #[zI a,zI 0,zI 1000000000000] W λe w'=>e=.returned (.bool (decide (0≤a∧a≤1000000000000)))∧w'=W):=λW=>cal.cin a 0 1000000000000 W;have f:Hid (∀W,zC 47 #[zI b,zI 0,zI 10000] W λe w'=>e=.returned (.bool (decide (0≤b∧b≤10000)))∧w'=W):=λW=>cal.cin b 0 10000 W;rw[decide_eq_true h] at d;rw[decide_eq_false hb] at f;clear h hb;go_enter Tryz.func49,Tryz.ntmps49;go_wp2_with fail;refine(d.o _).mono ?_;rintro e g ⟨rfl,c⟩;subst c;go_wp2_with fail;refine(f.o _).mono ?_;rintro e g ⟨rfl,c⟩;subst c;go_wp2;go_ret2;exact⟨rfl,rfl⟩
theorem rshare(t bp:Int)(w:World):Calls Tryz.prog 89 #[zI t,zI bp] w λe w'=>∃s f,e=.returned (.tuple #[zI s,zI f])∧ShareIs t bp s f∧w'=w:=by
 have b:Hid (∀W,zC 47 #[zI t,zI 0,zI 100000000] W λe w'=>e=.returned (.bool (decide (0≤t∧t≤100000000)))∧w'=W):=λW=>cal.cin t 0 100000000 W;by_cases c:0≤t∧t≤100000000
 ·rw[decide_eq_true c] at b;by_cases g:0≤bp∧bp≤10000
  ·have d:Hid (∀W,zC 49 #[zI t,zI bp] W λe w'=>e=.returned (.tuple #[zI (t*bp/10000),zI 0])∧w'=W):=λW=>rparted t bp W ⟨⟨c.1,by omega⟩,g⟩;have i:Hid (TMay t bp):=⟨c,g⟩
   clear c g;go_enter Tryz.func89,Tryz.ntmps89;go_wp2_with fail;refine(b.o _).mono ?_;rintro e j ⟨rfl,a⟩;subst a;go_wp2_with fail;refine(d.o _).mono ?_;rintro e j ⟨rfl,a⟩;subst a;go_wp2_with fail;go_ret2;exact⟨_,_,rfl,.inl ⟨i.o,rfl,rfl⟩,rfl⟩
  ·have d:Hid (∀W,zC 49 #[zI t,zI bp] W λe w'=>e=.returned (.tuple #[zI 0,zI 2])∧w'=W):=λW=>rnopart t bp W ⟨c.1,by omega⟩ g;have i:Hid (¬ TMay t bp):=λh=>g h.2;clear c g;go_enter Tryz.func89,Tryz.ntmps89;go_wp2_with fail;refine(b.o _).mono ?_;rintro e j ⟨rfl,a⟩;subst a;go_wp2_with fail;refine(d.o _).mono ?_;rintro e j ⟨rfl,a⟩;subst a;go_wp2_with fail;go_ret2;exact⟨_,_,rfl,.inr ⟨i.o,rfl,rfl⟩,rfl⟩
 ·rw[decide_eq_false c] at b;have i:Hid (¬ TMay t bp):=λh=>c h.1;clear c;go_enter Tryz.func89,Tryz.ntmps89;go_wp2_with fail;refine(b.o _).mono ?_;rintro e j ⟨rfl,a⟩;subst a;go_wp2_with fail;go_ret2;exact⟨_,_,rfl,.inr ⟨i.o,rfl,rfl⟩,rfl⟩
end deb
namespace book
open Go.RowKit
def refV(f:Int):Value:=.iface 230 (.agg #[zI f])
def thrown(f:Int):List PanicEntry:=[{ v:=refV f,recovered:=false }]
theorem insist_ok(w:World):Calls Tryz.prog 164 #[zI 0] w λe w'=>e=.returned (.tuple #[])∧w'=w:=by
 go_enter Tryz.func164,Tryz.ntmps164;go_wp2;go_end0;exact⟨rfl,rfl⟩
theorem insist_no(f:Int)(hf:f≠0)(w:World):Calls Tryz.prog 164 #[zI f] w λe w'=>e=.panicked (thrown f)∧w'=w:=by
 have nf:(f != 0)=true:=by simpa using hf
 clear hf;go_enter Tryz.func164,Tryz.ntmps164;go_wp2;exact⟨rfl,rfl,rfl⟩
theorem reason_nil(w:World):Calls Tryz.prog 107 #[.nilIface] w λe w'=>e=.returned (zI 0)∧w'=w:=by
 have a:∀w:World,(binOp BinOp.eql 20 .nilIface .nilIface).run Tryz.prog w=.ok (.bool true) w:=λ_=>by kernel_rfl
 go_enter Tryz.func107,Tryz.ntmps107;go_wp2;go_ret;exact⟨rfl,rfl⟩
theorem reason_is(f:Int)(w:World):Calls Tryz.prog 107 #[refV f] w λe w'=>e=.returned (zI f)∧zB w w':=by
 have d:∀w:World,(binOp BinOp.eql 20 (refV f) .nilIface).run Tryz.prog w=.ok (.bool false) w:=λ_=>by kernel_rfl
 have b:∀w:World,(Instr.typeAssert (refV f) 20 205 false).run Tryz.prog w=.ok (refV f) w:=λ_=>by kernel_rfl
 have c:∀w:World,(Instr.typeAssert (refV f) 205 230 true).run Tryz.prog w=.ok (.tuple #[.agg #[zI f],.bool true]) w:=λ_=>by kernel_rfl
 have a:Hid (zB w (w.alloc (.cells #[zI f] 230))):=zb.alloc zc _;unfold refV at *;go_enter Tryz.func107,Tryz.ntmps107;go_wp2;go_ret;exact⟨rfl,a.o⟩
theorem encode_caught(g:Nat)(f0 f:Int)(w:World)(hb:Blk w g #[zI f0] 36):
  CallsD Tryz.prog 118 #[.pointer (some ⟨g,0,none⟩)] (.panicking (thrown f)) w λe u' w'=>e=.returned (.tuple #[])∧settle u'=.returning∧∃W,zB w W∧Upd W w' g #[zI f] 36:=by
 refine callsD_of_wpS Tryz.func118 rfl λk cs d=>?_;apply wpS_region;simp only[thrown] at d;simp[wpOpsS,go_sem,recoverD,d,Tryz.ntmps118,Exit.thenS];refine(reason_is f w).mono ?_;rintro e b ⟨rfl,a⟩;have c:=hb.next a;have i:=c.cell 0;have j:=c.free 0;have h:Upd b (b.setCell ⟨g,0,none⟩ (zI f)) g #[zI f] 36:=upd_cells g _ [zI f] 0 b _ c;simp[go_sem,i,j,bodyPostS,results,Tryz.results118,settle];exact⟨b,a,h⟩
theorem encode_idle(g:Nat)(f0:Int)(w:World)(hb:Blk w g #[zI f0] 36):
  CallsD Tryz.prog 118 #[.pointer (some ⟨g,0,none⟩)] .returning w λe u' w'=>e=.returned (.tuple #[])∧settle u'=.returning∧∃W,zB w W∧Upd W w' g #[zI 0] 36:=by
 refine callsD_of_wpS Tryz.func118 rfl λc cs b=>?_;apply wpS_region;simp[wpOpsS,go_sem,recoverD,b,Tryz.ntmps118,Exit.thenS];refine(reason_nil w).mono ?_;rintro e a ⟨rfl,rfl⟩;have f:=hb.cell 0;have h:=hb.free 0;have d:Upd a (a.setCell ⟨g,0,none⟩ (zI 0)) g #[zI 0] 36:=upd_cells g _ [zI 0] 0 a _ hb;simp[go_sem,f,h,bodyPostS,results,Tryz.results118,b,settle];exact⟨.returning,(by cases c;simp_all),rfl,a,zb,d⟩
theorem decode_caught(g:Nat)(f0 f:Int)(w:World)(hb:Blk w g #[zI f0] 36):
  CallsD Tryz.prog 150 #[.pointer (some ⟨g,0,none⟩)] (.panicking (thrown f)) w λe u' w'=>e=.returned (.tuple #[])∧settle u'=.returning∧∃W,zB w W∧Upd W w' g #[zI f] 36:=by
 refine callsD_of_wpS Tryz.func150 rfl λk cs d=>?_;apply wpS_region;simp only[thrown] at d;simp[wpOpsS,go_sem,recoverD,d,Tryz.ntmps150,Exit.thenS];refine(reason_is f w).mono ?_;rintro e b ⟨rfl,a⟩;have c:=hb.next a;have i:=c.cell 0;have j:=c.free 0;have h:Upd b (b.setCell ⟨g,0,none⟩ (zI f)) g #[zI f] 36:=upd_cells g _ [zI f] 0 b _ c;simp[go_sem,i,j,bodyPostS,results,Tryz.results150,settle];exact⟨b,a,h⟩
theorem decode_idle(g:Nat)(f0:Int)(w:World)(hb:Blk w g #[zI f0] 36):
  CallsD Tryz.prog 150 #[.pointer (some ⟨g,0,none⟩)] .returning w λe u' w'=>e=.returned (.tuple #[])∧settle u'=.returning∧∃W,zB w W∧Upd W w' g #[zI 0] 36:=by
 refine callsD_of_wpS Tryz.func150 rfl λc cs b=>?_;apply wpS_region;simp[wpOpsS,go_sem,recoverD,b,Tryz.ntmps150,Exit.thenS];refine(reason_nil w).mono ?_;rintro e a ⟨rfl,rfl⟩;have f:=hb.cell 0;have h:=hb.free 0;have d:Upd a (a.setCell ⟨g,0,none⟩ (zI 0)) g #[zI 0] 36:=upd_cells g _ [zI 0] 0 a _ hb;simp[go_sem,f,h,bodyPostS,results,Tryz.results150,b,settle];exact⟨.returning,(by cases c;simp_all),rfl,a,zb,d⟩
end book
namespace deb
open tar (Du du0 Came RowD Ld ErrPost TwoPost PairT GaveD)
open Go.RowKit
def mixK(l:List Du)(m k:Nat):List Du:=ageAll (l.take k) m++l.drop k
theorem mix_all(l:List Du)(m k:Nat)(h:l.length=k):mixK l m k=ageAll l m:=by
 subst h;unfold mixK;rw[List.take_length,List.drop_length,List.append_nil]
theorem mix_len(l:List Du)(m k:Nat)(hk:k≤l.length):(mixK l m k).length=l.length:=by
 unfold mixK;rw[List.length_append,ageAll_len,List.length_take,List.length_drop];omega
theorem drop_one(l:List Du)(k:Nat)(hk:k<l.length):l.drop k=l.getD k du0::l.drop (k+1):=by
 rw[List.drop_eq_getElem_cons hk];simp[List.getD,List.getElem?_eq_getElem hk]
theorem mix_at(l:List Du)(m k:Nat)(hk:k<l.length):(mixK l m k).getD k du0=l.getD k du0:=by
 unfold mixK;have e:(ageAll (l.take k) m).length=k:=by rw[ageAll_len,List.length_take];omega
 rw[drop_one l k hk,List.getD,List.getElem?_append_right (by omega),e,Nat.sub_self];simp
theorem mix_set(l:List Du)(m k:Nat)(hk:k<l.length)(d:Du):(mixK l m k).set k d=ageAll (l.take k) m++d::l.drop (k+1):=by
 unfold mixK;have e:(ageAll (l.take k) m).length=k:=by rw[ageAll_len,List.length_take];omega
 rw[drop_one l k hk,List.set_append_right _ _ (by omega),e,Nat.sub_self,List.set_cons_zero]
theorem mix_next(l:List Du)(m k:Nat)(hk:k<l.length):(mixK l m k).set k ⟨growN (l.getD k du0).b m (l.getD k du0).a,(l.getD k du0).b⟩=mixK l m (k+1):=by
 rw[mix_set l m k hk];unfold mixK;rw[ageAll_take l m k hk];simp
theorem mix_same(l:List Du)(m k:Nat)(hk:k<l.length):(mixK l m k).set k ⟨growN (l.getD k du0).b 0 (l.getD k du0).a,(l.getD k du0).b⟩=mixK l m k:=by
 rw[mix_set l m k hk];show ageAll (l.take k) m++l.getD k du0::l.drop (k+1)=mixK l m k;unfold mixK;rw[drop_one l k hk]
theorem cells_set(l:List Du)(k:Nat)(hk:k<l.length)(x b:Int)(hb:(l.getD k du0).b=b):tar.cellsD (l.set k ⟨x,b⟩)=(tar.cellsD l).set (k*2) (zI x):=by
 induction l generalizing k with
 |nil=>simp at hk
 |cons d l ih=>
  cases k with
  |zero=>
   have e:d.b=b:=by simpa using hb
   subst e;rfl
  |succ k=>
   rw[show (k+1)*2=k*2+1+1 by omega];have a:k<l.length:=by simpa using hk
   have c:=ih k a (by simpa using hb);show tar.cellsD (d::l.set k ⟨x,b⟩)=_;simp only[tar.cellsD,List.set_cons_succ,c]
theorem ld_put{T:TypeId}{w W:World}{base g n cap:Nat}{l:List Du}{cur:Array Value}(h:Ld T w base (.slice (some ⟨g,0,none⟩) n cap) l)(hB:Blk w g cur T)(k:Nat)(hk:k<l.length)(x b:Int)(hb:(l.getD k du0).b=b)(hU:Upd w W g (cur.setIfInBounds (k*2) (zI x)) T):Ld T W base (.slice (some ⟨g,0,none⟩) n cap) (l.set k ⟨x,b⟩):=by
 unfold Ld at *;rw[List.length_set,cells_set l k hk x b hb];refine⟨by rw[List.length_set];exact h.1,?_⟩;rcases h.2 with⟨i,_⟩|⟨s,d,c,f,m,a,p,o,r,q⟩
 ·cases i
 ·simp only[Value.slice.injEq,Option.some.injEq,Addr.mk.injEq,and_true] at f;obtain⟨rfl,rfl,rfl⟩:=f
  have e:c=cur:=by
   have j:=hB;rw[j] at a;injection a with a
   injection a with a
   exact a.symm
  subst e;exact .inr ⟨g,cap,_,rfl,m,hU.blk,p,o,by simpa using r,by rw[Array.toList_setIfInBounds,← q,List.take_set]⟩
theorem ld_lies{T:TypeId}{w:World}{base n cap:Nat}{a:Option Addr}{l:List Du}(h:Ld T w base (.slice a n cap) l)(hn:0<n):∃g cur,a=some ⟨g,0,none⟩∧base≤g∧Blk w g cur T∧n*2≤cur.size∧(∀k,k<l.length→w.cell? ⟨g,k*2,none⟩=some (zI (l.getD k du0).a)∧w.cell? ⟨g,k*2+1,none⟩=some (zI (l.getD k du0).b)):=by
 rcases h.2 with⟨i,q⟩|⟨g,c,cur,d,m,j,p,r,t,s⟩
 ·simp only[Value.slice.injEq] at i;omega
 ·simp only[Value.slice.injEq] at d;obtain⟨rfl,rfl,rfl⟩:=d;refine⟨g,cur,rfl,m,j,by omega,λk o=>?_⟩;have e:=World.ownsRow.cellAt h (k*2) (by omega);have f:=World.ownsRow.cellAt h (k*2+1) (by omega);rw[e,f];exact tar.cellsD_at l k o
end deb
namespace tar
open Go.RowKit Go.Shelf
attribute [local go_sem] Oper.semAt_some
theorem boxed_same{W W':World}{B:Nat}{t:TypeId}{v:Value}(h:Boxed W B t v)(e:W'.heap[B]?=W.heap[B]?):Boxed W' B t v:=e.trans h
theorem lines1_in(F:Fence)(n:Nat)(hF:F.fn 147)(hro:F.round=none)(hn:1≤n)(l Bf Bt Bu n₀ lo hi b off len cap B0:Nat)(ls:List Du)(x u:Int)(J Jx:List Ln→World→Prop)
  (hR:Right ls) (hlen:ls.length=len) (hx:0≤x∧x≤10000000) (hu:0≤u∧x+u≤10000000) (hJ:AbidesFrom B0 J)
  (hY:∀ pre t W,J pre W→pre.length<len→YieldAt F (n - 1) Tryz.prog l (encL t) W fun e W'=>
   (e = .returned (.bool true)∧J (pre++[t]) W'∧Kq n₀ lo hi W W')∨(e = .returned (.bool false)∧Jx (pre++[t]) W'))
  (W:World) (hf:Boxed W Bf 3 (zI x)) (ht:Boxed W Bt 22 (.slice (some ⟨b,off,none⟩) len cap)) (hun:Boxed W Bu 3 (zI u)) (h1:lo≤Bf∧Bf<hi) (h2:lo≤Bu∧Bu<hi) (hb:b<n₀) (hnW:n₀≤W.heap.size)
  (hc:∀i,i<len→W.cell? ⟨b,off+i*2,none⟩=some (zI (ls.getD i du0).a)∧W.cell? ⟨b,off+i*2+1,none⟩=some (zI (ls.getD i du0).b)) (h0:J [] W):
  CallsIn F n Tryz.prog 147 #[.func (.yield l) #[] #[],.pointer (some ⟨Bf,0,none⟩),.pointer (some ⟨Bt,0,none⟩),.pointer (some ⟨Bu,0,none⟩)] W λe W'=>(∃v,e=.returned v) ∧
   ((∃ys,lns ys=billK ls x (x+u) len∧J ys W')∨(∃pre,lns pre <+: billK ls x (x+u) len∧Jx pre W')):=by
 have A:Hid (Right ls):=hR
 have HY:Hid (∀ pre t W,J pre W→pre.length<len→YieldAt F (n - 1) Tryz.prog l (encL t) W fun e W'=>
   (e = .returned (.bool true)∧J (pre++[t]) W'∧Kq n₀ lo hi W W')∨(e = .returned (.bool false)∧Jx (pre++[t]) W')):=hY
 have HJ:Hid (AbidesFrom B0 J):=hJ;have HC:Hid (∀i,i<len→W.cell? ⟨b,off+i*2,none⟩=some (zI (ls.getD i du0).a)∧W.cell? ⟨b,off+i*2+1,none⟩=some (zI (ls.getD i du0).b)):=hc;have O:Hid (ls.length=len):=hlen;have al:len≤8:=by have:=hR.1.2;omega
 have ct:=ht.cell;have cf:=hf.cell;obtain⟨q,ap⟩:=hx;obtain⟨ao,ad⟩:=hu;have HX:Hid (0≤x∧x≤x+u∧x+u≤10000000):=⟨q,by omega,ad⟩
 clear hR hY hJ hc hlen;refine callsIn_of_wp Tryz.func147 rfl hF ?_ hro;simp only[Tryz.ntmps147,List.size_toArray,List.length_cons,List.length_nil,Nat.reduceAdd,Nat.reduceSub,Array.replicate_succ,Array.replicate_zero,List.push_toArray,List.append_toArray,List.nil_append,List.cons_append]
 gi_wp2
 gi_loopw [5,12] (λr i wr=>∃(k:Nat)(pre:List Ln),k≤len∧i=zI (k:Int)∧r=zI (x+manyK ls x (x+u) k)∧lns pre=billK ls x (x+u) k∧J pre wr∧Boxed wr Bf 3 (zI x)∧Boxed wr Bu 3 (zI u)∧Below n₀ W wr) (λ_ i _=>len-(intOf i).toNat)
 case atStart=>exact⟨0,[],Nat.zero_le _,rfl,by show _=Value.int .i64 (x+0);rw[Int.add_zero],rfl,h0,hf,hun,zb⟩
 case round=>
  obtain⟨k,pre,hk,rfl,rfl,D,hj,g,h,d⟩:=hrel;have f:Hid (lns pre=billK ls x (x+u) k):=D;have N:Hid (J pre wr):=hj;have ai:Hid (Boxed wr Bf 3 (zI x)):=g;have ak:Hid (Boxed wr Bu 3 (zI u)):=h;have aj:Hid (Below n₀ W wr):=d;clear D hj hf hun ht ct cf;by_cases E:k<len
  ·have a6:decide ((k:Int)<(len:Int))=true:=by simp;omega
   have c0:wr.cell? ⟨b,off+k*2,none⟩=some (zI (ls.getD k du0).a):=(d.cell (p:=⟨b,off+k*2,none⟩) hb).trans (HC.o k E).1;have c1:wr.cell? ⟨b,off+k*2+1,none⟩=some (zI (ls.getD k du0).b):=(d.cell (p:=⟨b,off+k*2+1,none⟩) hb).trans (HC.o k E).2;have j:k<ls.length:=by rw[O.o];exact E
   have z:=A.o.price k j;have H:=A.o.upto k j;have T:=many_bd A.o x (x+u) q (by omega) k (by omega);have ae:=run_min (ls.getD k du0).a (x+u) _ rfl
   have ac:pre.length<len:=by
    have e1:=lns_len pre;have e2:=bill_len ls x (x+u) k;rw[f.o] at e1;omega
   have K:Hid (∀o,Below n₀ W (wr.alloc o)):=λo=>d.alloc (Nat.le_trans hnW d.size) o;have cf:∀o,(wr.alloc o).cell? ⟨Bf,0,none⟩=some (zI x):=λo=>(g.alloc o).cell;have cu:∀o,(wr.alloc o).cell? ⟨Bu,0,none⟩=some (zI u):=λo=>(h.alloc o).cell;have L:Hid (∀o,Boxed (wr.alloc o) Bf 3 (zI x)):=λo=>g.alloc o;have Q:Hid (∀o,Boxed (wr.alloc o) Bu 3 (zI u)):=λo=>h.alloc o;have M:Hid (∀o,J pre (wr.alloc o)):=λo=>HJ.o pre wr _ none N.o (World.grownBy_alloc wr o none) (λr e=>by cases e);clear g h d;by_cases U:0<min (ls.getD k du0).a (x+u)-(x+manyK ls x (x+u) k)
   ·have I:=nxt_yes A.o x (x+u) q (by omega) k j U;have y:=U;rw[I] at y;have c:=line_ok A.o x (x+u) k j y;have HN:Hid (billK ls x (x+u) (k+1)=billK ls x (x+u) k++[⟨ov (low ls k) (ls.getD k du0).a x (x+u),(ls.getD k du0).b,ov (low ls k) (ls.getD k du0).a x (x+u)*(ls.getD k du0).b⟩]):=billK_yes ls x (x+u) k y;have Y:Hid (manyK ls x (x+u) (k+1)=manyK ls x (x+u) k+ov (low ls k) (ls.getD k du0).a x (x+u)):=many_next ls x (x+u) k;have S:=many_bd A.o x (x+u) q (by omega) (k+1) (by omega);rw[Y.o] at S;have a8:=ov_le (low ls k) (ls.getD k du0).a x (x+u) (A.o.low_pos k (by omega)) H.2;have G:=prod_bd (Int.le_of_lt y) a8 z.1 z.2;generalize ov (low ls k) (ls.getD k du0).a x (x+u)=o at *;generalize manyK ls x (x+u) k=mk at *;generalize (ls.getD k du0).a=up at *;generalize (ls.getD k du0).b=p at *;generalize min up (x+u)=m at *;have hm:m-(x+mk)=o:=I;have a7:decide (o≤0)=false:=by simp;omega
    have HQ:Hid (∀ C,YieldAt F (n - 1) Tryz.prog l (encL ⟨⟨o,p,o*p⟩,c⟩) (wr.alloc C) fun e W'=>
     (e = .returned (.bool true)∧J (pre++[⟨⟨o,p,o*p⟩,c⟩]) W'∧Kq n₀ lo hi (wr.alloc C) W')∨(e = .returned (.bool false)∧Jx (pre++[⟨⟨o,p,o*p⟩,c⟩]) W')):=fun C=>HY.o pre ⟨⟨o,p,o*p⟩,c⟩ _ (M.o C) ac
    obtain⟨fn,ah,Z,body,hy,a5⟩:=HQ.o (.cells #[zI up,zI p] 214)
    have P:Hid (lns (pre++[⟨⟨o,p,o*p⟩,c⟩])=billK ls x (x+u) (k+1)):=by
     show _=_;rw[lns_app,f.o,HN.o];rfl
    have af:=G.1;have ag:=G.2;have V:0≤x+mk:=by omega
    have X:x+mk≤10000000:=by omega
    have a9:0≤m:=by omega
    have aa:m≤20000000:=by omega
    have an:x+mk+o≤10000000:=by omega
    have am:0≤o:=by omega
    simp only[encL] at hy;clear I U T S G z H
    gi_wp2
    refine a5.mono ?_;rintro e W3 (⟨rfl,R,s⟩|⟨rfl,B⟩)
    ·have a0:Hid (Below n₀ W W3):=(K.o _).trans s.1;have a1:Hid (Boxed W3 Bf 3 (zI x)):=boxed_same (L.o _) (s.2 Bf h1.1 h1.2);have a4:Hid (Boxed W3 Bu 3 (zI u)):=boxed_same (Q.o _) (s.2 Bu h2.1 h2.2);have a2:Hid (J (pre++[⟨⟨o,p,o*p⟩,c⟩]) W3):=R;clear s R
     gi_wp2
     go_roundw
     case rel=>exact⟨k+1,pre++[⟨⟨o,p,o*p⟩,c⟩],by omega,by go_num,by rw[Y.o,Int.add_assoc],P.o,a2.o,a1.o,a4.o,a0.o⟩
     case measure=>simp[intOf];omega
    ·have a3:Hid (Jx (pre++[⟨⟨o,p,o*p⟩,c⟩]) W3):=B;clear B
     gi_wp2
     refine bodyPost_ret (results_none rfl _ _ _) rfl ?_;exact⟨⟨_,rfl⟩,.inr ⟨pre++[⟨⟨o,p,o*p⟩,c⟩],by rw[P.o];exact bill_prefix ls x (x+u) (k+1) len (by omega),a3.o⟩⟩
   ·have I:=nxt_no A.o x (x+u) q (by omega) k j U;have ab:0≤min (ls.getD k du0).a (x+u):=by omega
    have HN:Hid (billK ls x (x+u) (k+1)=billK ls x (x+u) k):=billK_no ls x (x+u) k (by omega);have Y:Hid (manyK ls x (x+u) (k+1)=manyK ls x (x+u) k):=by show _=_;rw[many_next,I,Int.add_zero]
    generalize manyK ls x (x+u) k=mk at *;generalize (ls.getD k du0).a=up at *;generalize (ls.getD k du0).b=p at *;generalize min up (x+u)=m at *;have V:0≤x+mk:=by omega
    have X:x+mk≤10000000:=by omega
    have a7:decide (m-(x+mk)≤0)=true:=by simp;omega
    have a9:0≤m:=ab;have aa:m≤20000000:=by omega
    clear I U T z H
    gi_wp2
    go_roundw
    case rel=>exact⟨k+1,pre,by omega,by go_num,by rw[Y.o],by rw[HN.o];exact f.o,M.o _,L.o _,Q.o _,K.o _⟩
    case measure=>simp[intOf];omega
  ·obtain rfl:k=len:=by omega
   have a6:decide ((k:Int)<(k:Int))=false:=by simp
   clear g h d
   gi_wp2
   go_end0;exact⟨⟨_,rfl⟩,.inl ⟨pre,f.o,N.o⟩⟩
end tar
end Go.Proofs.YtoepgdhiepedeaaGreatDoor
namespace Go.Proofs
open Go.Shelf
def Tryz.lays105_ren : Go.Shelf.Ren := ⟨fun|105 => 80|212 => 126|99 => 127|165 => 128|166 => 129|170 => 130|169 => 131|263 => 170|264 => 171|206 => 172|240 => 173|241 => 174|276 => 188|277 => 189|n => n, fun|9 => 9|3 => 3|4 => 4|20 => 20|0 => 0|46 => 196|109 => 197|5 => 5|72 => 202|76 => 206|51 => 83|146 => 256|53 => 174|148 => 258|70 => 200|37 => 195|75 => 205|127 => 260|164 => 268|80 => 128|n => n, fun|n => n⟩
theorem Tryz.lays105 : Go.Proofs.Lays.n105 Tryz.prog Tryz.lays105_ren := {
 mixed := by kernel_rfl
 f99 := Tryz.func127.trans (congrArg some (by kernel_rfl))
 f105 := Tryz.func80.trans (congrArg some (by kernel_rfl))
 f165 := Tryz.func128.trans (congrArg some (by kernel_rfl))
 f166 := Tryz.func129.trans (congrArg some (by kernel_rfl))
 f169 := Tryz.func131.trans (congrArg some (by kernel_rfl))
 f170 := Tryz.func130.trans (congrArg some (by kernel_rfl))
 f206 := Tryz.func172.trans (congrArg some (by kernel_rfl))
 f212 := Tryz.func126.trans (congrArg some (by kernel_rfl))
 f240 := Tryz.func173.trans (congrArg some (by kernel_rfl))
 f241 := Tryz.func174.trans (congrArg some (by kernel_rfl))
 f263 := Tryz.func170.trans (congrArg some (by kernel_rfl))
 f264 := Tryz.func171.trans (congrArg some (by kernel_rfl))
 f276 := Tryz.func188.trans (congrArg some (by kernel_rfl))
 f277 := Tryz.func189.trans (congrArg some (by kernel_rfl))
 t0 := Tryz.underlying0
 a0 := Tryz.isAgg0
 z0 := Tryz.sizeOf0
 v0 := Tryz.zeroValue0
 t3 := Tryz.underlying3
 a3 := Tryz.isAgg3
 z3 := Tryz.sizeOf3
 v3 := Tryz.zeroValue3
 t4 := Tryz.underlying4
 a4 := Tryz.isAgg4
 z4 := Tryz.sizeOf4
 v4 := Tryz.zeroValue4
 t5 := Tryz.underlying5
 a5 := Tryz.isAgg5
 z5 := Tryz.sizeOf5
 v5 := Tryz.zeroValue5
 t9 := Tryz.underlying9
 a9 := Tryz.isAgg9
 z9 := Tryz.sizeOf9
 v9 := Tryz.zeroValue9
 t20 := Tryz.underlying20
 a20 := Tryz.isAgg20
 z20 := Tryz.sizeOf20
 v20 := Tryz.zeroValue20
 t37 := Tryz.underlying195
 a37 := Tryz.isAgg195
 z37 := Tryz.sizeOf195
 v37 := Tryz.zeroValue195
 t46 := Tryz.underlying196
 a46 := Tryz.isAgg196
 z46 := Tryz.sizeOf196
 v46 := Tryz.zeroValue196
 t51 := Tryz.underlying83
 a51 := Tryz.isAgg83
 z51 := Tryz.sizeOf83
 v51 := Tryz.zeroValue83
 t53 := Tryz.underlying174
 a53 := Tryz.isAgg174
 z53 := Tryz.sizeOf174
 v53 := Tryz.zeroValue174
 t70 := Tryz.underlying200
 a70 := Tryz.isAgg200
 z70 := Tryz.sizeOf200
 v70 := Tryz.zeroValue200
 t72 := Tryz.underlying202
 a72 := Tryz.isAgg202
 z72 := Tryz.sizeOf202
 v72 := Tryz.zeroValue202
 t75 := Tryz.underlying205
 a75 := Tryz.isAgg205
 z75 := Tryz.sizeOf205
 v75 := Tryz.zeroValue205
 t76 := Tryz.underlying206
 a76 := Tryz.isAgg206
 z76 := Tryz.sizeOf206
 v76 := Tryz.zeroValue206
 t109 := Tryz.underlying197
 a109 := Tryz.isAgg197
 z109 := Tryz.sizeOf197
 v109 := Tryz.zeroValue197
 t127 := Tryz.underlying260
 a127 := Tryz.isAgg260
 z127 := Tryz.sizeOf260
 v127 := Tryz.zeroValue260
 t146 := Tryz.underlying256
 a146 := Tryz.isAgg256
 z146 := Tryz.sizeOf256
 v146 := Tryz.zeroValue256
 t148 := Tryz.underlying258
 a148 := Tryz.isAgg258
 z148 := Tryz.sizeOf258
 v148 := Tryz.zeroValue258
 t164 := Tryz.underlying268
 a164 := Tryz.isAgg268
 z164 := Tryz.sizeOf268
 v164 := Tryz.zeroValue268 }
theorem Tryz.Builder_Extra_105 : Builder.Extra Tryz.prog Tryz.lays105_ren := {
 sizeBuilder := by kernel_rfl
 liesBuilder := by kernel_rfl
 t5 := Tryz.underlying5
 a5 := Tryz.isAgg5
 z5 := Tryz.sizeOf5
 v5 := Tryz.zeroValue5
 infoByte := by kernel_rfl
 cellsByte := by kernel_rfl
 sizeByte := by kernel_rfl
 neB5 := by decide }
open Go.RowKit Go.Lib in
theorem Tryz.strings_Repeat(s : ByteArray)(c : Nat)(w : World)(hc : c ≤ 9223372036854775807)(hlen : s.size * c ≤ 140737488355328):
  Calls Tryz.prog 80 #[.string s, .int .i64 c] w λe w' => e=.returned (.string ⟨(Lib.repeatL s.data.toList c).toArray⟩) ∧ Below w.heap.size w w' := Any.strings_Repeat Tryz.lays105 Tryz.Builder_Extra_105 s c w hc hlen
end Go.Proofs
namespace Go.Proofs.YtoepgdhiepedeaaGreatDoor
end Go.Proofs.YtoepgdhiepedeaaGreatDoor
