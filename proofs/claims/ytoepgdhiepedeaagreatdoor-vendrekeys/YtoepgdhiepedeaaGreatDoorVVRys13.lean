import Derived.Test.YtoepgdhiepedeaaGreatDoorVVRys11
import Derived.Test.YtoepgdhiepedeaaGreatDoorVVRys12
set_option linter.unusedVariables false
set_option linter.unusedSimpArgs false
set_option maxHeartbeats 4000000
set_option maxRecDepth 100000
namespace Go.Proofs.YtoepgdhiepedeaaGreatDoor
namespace book
open Go.RowKit
theorem eqBi_f0(a0 a1 a2 a3 a4 a5 a6:Int)(w:World):(part 3 #[zI a0,zI a1,zI a2,zI a3,zI a4,zI a5,zI a6] 0).run Tryz.prog w=.ok (zI a0) w:=by kernel_rfl
theorem eqBi_f1(a0 a1 a2 a3 a4 a5 a6:Int)(w:World):(part 3 #[zI a0,zI a1,zI a2,zI a3,zI a4,zI a5,zI a6] 1).run Tryz.prog w=.ok (zI a1) w:=by kernel_rfl
theorem eqBi_f2(a0 a1 a2 a3 a4 a5 a6:Int)(w:World):(part 3 #[zI a0,zI a1,zI a2,zI a3,zI a4,zI a5,zI a6] 2).run Tryz.prog w=.ok (zI a2) w:=by kernel_rfl
theorem eqBi_f3(a0 a1 a2 a3 a4 a5 a6:Int)(w:World):(part 3 #[zI a0,zI a1,zI a2,zI a3,zI a4,zI a5,zI a6] 3).run Tryz.prog w=.ok (zI a3) w:=by kernel_rfl
theorem eqBi_f4(a0 a1 a2 a3 a4 a5 a6:Int)(w:World):(part 3 #[zI a0,zI a1,zI a2,zI a3,zI a4,zI a5,zI a6] 4).run Tryz.prog w=.ok (zI a4) w:=by kernel_rfl
theorem eqBi_f5(a0 a1 a2 a3 a4 a5 a6:Int)(w:World):(part 3 #[zI a0,zI a1,zI a2,zI a3,zI a4,zI a5,zI a6] 5).run Tryz.prog w=.ok (zI a5) w:=by kernel_rfl
theorem eqBi_f6(a0 a1 a2 a3 a4 a5 a6:Int)(w:World):(part 3 #[zI a0,zI a1,zI a2,zI a3,zI a4,zI a5,zI a6] 6).run Tryz.prog w=.ok (zI a6) w:=by kernel_rfl
theorem eqBi(d:Nat)(a0 a1 a2 a3 a4 a5 a6 b0 b1 b2 b3 b4 b5 b6:Int)(w:World):(Op.equalIn (d+2) 33 (.agg #[zI a0,zI a1,zI a2,zI a3,zI a4,zI a5,zI a6]) (.agg #[zI b0,zI b1,zI b2,zI b3,zI b4,zI b5,zI b6])).run Tryz.prog w=.ok (decide (a0=b0∧a1=b1∧a2=b2∧a3=b3∧a4=b4∧a5=b5∧a6=b6)) w:=by
 rw[run_equalIn_agg w (d+1) 33 _ _ (by kernel_rfl) (by kernel_rfl)];simp only[Program.fieldsOf,Tryz.underlying33,Op.eqFields,Sem.run_bind,Sem.run_ite,eqBi_f0,eqBi_f1,eqBi_f2,eqBi_f3,eqBi_f4,eqBi_f5,eqBi_f6,Result.andThen_ok,eqI];by_cases a:a0=b0
 case neg=>simp[a]
 subst a;by_cases b:a1=b1
 case neg=>simp[b]
 subst b;by_cases c:a2=b2
 case neg=>simp[c]
 subst c;by_cases e:a3=b3
 case neg=>simp[e]
 subst e;by_cases f:a4=b4
 case neg=>simp[f]
 subst f;by_cases g:a5=b5
 case neg=>simp[g]
 subst g;by_cases h:a6=b6
 case neg=>simp[h]
 subst h;simp
theorem eqDe_f0(a0 a1:Int)(w:World):(part 3 #[zI a0,zI a1] 0).run Tryz.prog w=.ok (zI a0) w:=by kernel_rfl
theorem eqDe_f1(a0 a1:Int)(w:World):(part 3 #[zI a0,zI a1] 1).run Tryz.prog w=.ok (zI a1) w:=by kernel_rfl
theorem eqDe(d:Nat)(a0 a1 b0 b1:Int)(w:World):(Op.equalIn (d+2) 42 (.agg #[zI a0,zI a1]) (.agg #[zI b0,zI b1])).run Tryz.prog w=.ok (decide (a0=b0∧a1=b1)) w:=by
 rw[run_equalIn_agg w (d+1) 42 _ _ (by kernel_rfl) (by kernel_rfl)];simp only[Program.fieldsOf,Tryz.underlying42,Op.eqFields,Sem.run_bind,Sem.run_ite,eqDe_f0,eqDe_f1,Result.andThen_ok,eqI];by_cases a:a0=b0
 case neg=>simp[a]
 subst a;by_cases b:a1=b1
 case neg=>simp[b]
 subst b;simp
theorem eqEv_f0(a0 a1 a2 a3 a4 a5 a6 a7 a8 a9 a10 a11 a12:Int)(w:World):(part 3 #[zI a0,zI a1,zI a2,zI a3,zI a4,zI a5,zI a6,zI a7,zI a8,zI a9,zI a10,zI a11,zI a12] 0).run Tryz.prog w=.ok (zI a0) w:=by kernel_rfl
theorem eqEv_f1(a0 a1 a2 a3 a4 a5 a6 a7 a8 a9 a10 a11 a12:Int)(w:World):(part 3 #[zI a0,zI a1,zI a2,zI a3,zI a4,zI a5,zI a6,zI a7,zI a8,zI a9,zI a10,zI a11,zI a12] 1).run Tryz.prog w=.ok (zI a1) w:=by kernel_rfl
theorem eqEv_f2(a0 a1 a2 a3 a4 a5 a6 a7 a8 a9 a10 a11 a12:Int)(w:World):(part 3 #[zI a0,zI a1,zI a2,zI a3,zI a4,zI a5,zI a6,zI a7,zI a8,zI a9,zI a10,zI a11,zI a12] 2).run Tryz.prog w=.ok (zI a2) w:=by kernel_rfl
theorem eqEv_f3(a0 a1 a2 a3 a4 a5 a6 a7 a8 a9 a10 a11 a12:Int)(w:World):(part 33 #[zI a0,zI a1,zI a2,zI a3,zI a4,zI a5,zI a6,zI a7,zI a8,zI a9,zI a10,zI a11,zI a12] 3).run Tryz.prog w=.ok (.agg #[zI a3,zI a4,zI a5,zI a6,zI a7,zI a8,zI a9]) w:=by kernel_rfl
theorem eqEv_f10(a0 a1 a2 a3 a4 a5 a6 a7 a8 a9 a10 a11 a12:Int)(w:World):(part 3 #[zI a0,zI a1,zI a2,zI a3,zI a4,zI a5,zI a6,zI a7,zI a8,zI a9,zI a10,zI a11,zI a12] 10).run Tryz.prog w=.ok (zI a10) w:=by kernel_rfl
theorem eqEv_f11(a0 a1 a2 a3 a4 a5 a6 a7 a8 a9 a10 a11 a12:Int)(w:World):(part 42 #[zI a0,zI a1,zI a2,zI a3,zI a4,zI a5,zI a6,zI a7,zI a8,zI a9,zI a10,zI a11,zI a12] 11).run Tryz.prog w=.ok (.agg #[zI a11,zI a12]) w:=by kernel_rfl
theorem eqEv(d:Nat)(a0 a1 a2 a3 a4 a5 a6 a7 a8 a9 a10 a11 a12 b0 b1 b2 b3 b4 b5 b6 b7 b8 b9 b10 b11 b12:Int)(w:World):(Op.equalIn (d+3) 44 (.agg #[zI a0,zI a1,zI a2,zI a3,zI a4,zI a5,zI a6,zI a7,zI a8,zI a9,zI a10,zI a11,zI a12]) (.agg #[zI b0,zI b1,zI b2,zI b3,zI b4,zI b5,zI b6,zI b7,zI b8,zI b9,zI b10,zI b11,zI b12])).run Tryz.prog w=.ok (decide (a0=b0∧a1=b1∧a2=b2∧a3=b3∧a4=b4∧a5=b5∧a6=b6∧a7=b7∧a8=b8∧a9=b9∧a10=b10∧a11=b11∧a12=b12)) w:=by
 rw[run_equalIn_agg w (d+2) 44 _ _ (by kernel_rfl) (by kernel_rfl)];simp only[Program.fieldsOf,Tryz.underlying44,Op.eqFields,Sem.run_bind,Sem.run_ite,eqEv_f0,eqEv_f1,eqEv_f2,eqEv_f3,eqEv_f10,eqEv_f11,Result.andThen_ok,eqI,eqBi,eqDe];by_cases g:a0=b0
 case neg=>simp[g]
 subst g;by_cases i:a1=b1
 case neg=>simp[i]
 subst i;by_cases j:a2=b2
 case neg=>simp[j]
 subst j;by_cases e:a3=b3∧a4=b4∧a5=b5∧a6=b6∧a7=b7∧a8=b8∧a9=b9
 case neg=>
  have f:=decide_eq_false e;have r:¬ (a0=a0∧a1=a1∧a2=a2∧a3=b3∧a4=b4∧a5=b5∧a6=b6∧a7=b7∧a8=b8∧a9=b9∧a10=b10∧a11=b11∧a12=b12):=λh=>e ⟨h.2.2.2.1,h.2.2.2.2.1,h.2.2.2.2.2.1,h.2.2.2.2.2.2.1,h.2.2.2.2.2.2.2.1,h.2.2.2.2.2.2.2.2.1,h.2.2.2.2.2.2.2.2.2.1⟩;simp only[f,decide_eq_false r];simp;intro k l m n o p q;exact absurd ⟨k,l,m,n,o,p,q⟩ e
 obtain⟨rfl,rfl,rfl,rfl,rfl,rfl,rfl⟩:=e;by_cases a:a10=b10
 case neg=>simp[a]
 subst a;by_cases b:a11=b11
 case neg=>simp[b]
 subst b;by_cases c:a12=b12
 case neg=>simp[c]
 subst c;simp
end book
namespace acc
open tar (Du du0 Came RowD Ld PairT)
open Go.RowKit
theorem rowes(x:Ac)(p:Option Addr)(len cap:Nat)(q:Du)(w:World)(h:RowD w p len x.ds)(hl:len≤maxLen):Calls Tryz.prog 133 #[.agg #[zI x.me,zI x.rv,zI x.nx,zI x.mo,zI x.bo,zI x.fr,.slice p len cap],.agg #[zI q.a,zI q.b]] w λe w'=>APost w (OweIs x q) e w':=by
 have E:=h.1;have B:Hid (∀W,zC 47 #[zI q.a,zI 1,zI 1000000000] W λe w'=>e=.returned (.bool (decide (1≤q.a∧q.a≤1000000000)))∧w'=W):=λW=>cal.cin q.a 1 1000000000 W;have G:Hid (∀W,zC 47 #[zI q.b,zI 0,zI 10000] W λe w'=>e=.returned (.bool (decide (0≤q.b∧q.b≤10000)))∧w'=W):=λW=>cal.cin q.b 0 10000 W;by_cases S:AMay x
 ·have V:=zh S;have a3:=S.1;have aM:len≤8:=by have:=S.1.1;omega
  obtain⟨P,O,J,K,L,u,aA⟩:=sh3 w #[zI x.me,zI x.rv,zI x.nx,zI x.mo,zI x.bo,zI x.fr,.slice p len cap] 55 #[zI q.a,zI q.b] 42 #[zI 0,zI 0,zI 0,zI 0,zI 0,zI 0,zS] 55;have y:=zh (h.below u.o);go_enter Tryz.func133,Tryz.ntmps133;go_upto_region 1 with fail
  rw[O.o];have N:Hid (zC 44 #[.agg #[zI x.me,zI x.rv,zI x.nx,zI x.mo,zI x.bo,zI x.fr,.slice p len cap]] P λe w'=>e=.returned (.bool true)∧zB P w'):=ramay x p len cap _ y.o hl S;go_wp2_with refine zw ?_;refine N.o.mono ?_;rintro e F ⟨rfl,i⟩;obtain⟨m,g,X⟩:=zn3 i J K L;have M:=zh (y.o.below i);have s:=shB u i;have a6:=i.size;clear i;clear S;by_cases Q:1≤q.a∧q.a≤1000000000
  ·rw[decide_eq_true Q] at B;by_cases R:0≤q.b∧q.b≤10000
   ·rw[decide_eq_true R] at G;have T:=zy0 g;have a8:=zy1 g;go_wp2_with fail;refine(B.o _).mono ?_;rintro e I ⟨rfl,l⟩;obtain rfl:F=I:=l.symm;go_wp2_with fail;refine(G.o _).mono ?_;rintro e I ⟨rfl,l⟩;obtain rfl:F=I:=l.symm;clear T a8;by_cases h3:len<8
    ·have d3:decide (8≤(len:Int))=false:=decide_eq_false (by omega);have d4:decide (8≤len)=false:=decide_eq_false (by omega);have av:=zh (rcopyL x p len cap F M.o a3)
     have ax:Hid (deb.Mays (x.ds++[q])):=⟨by rw [List.length_append,E];show len+1≤8;omega,deb.fits_mem fun d hd=>by
      rcases List.mem_append.1 hd with hd|hd
      ·exact deb.mem_fits a3.2 d hd
      ·have e2:=List.mem_singleton.1 hd;subst e2
       exact ⟨⟨by omega,Q.2⟩,R⟩⟩
     have aC:x.ds.length≤1000000:=by omega
     have ay:Hid (OweIs x q ⟨x.me,x.rv,x.nx,x.mo,x.bo,x.fr,x.ds++[q]⟩ 0):=.inr (.inr (.inr ⟨V.o,⟨Q,R⟩,by rw[E];exact h3,rfl,rfl⟩));have a7:=zy6 m;go_wp2_with refine zw ?_;refine av.o.mono ?_;rintro e w3 ⟨t,c,rfl,az,a5,D⟩;obtain⟨z,A,k⟩:=zn3 D m g X;have aH:=zh (M.o.below D);have j:=shB s D;have aF:=D.size;clear D;clear a7;unfold Ac.v Ac.cs;have a0:=zh a5;clear az a5;have aw:Hid (Ld 42 (w3.alloc (.cells #[zI x.me,zI x.rv,zI x.nx,zI x.mo,zI x.bo,zI x.fr,.slice t len c] 55)) F.heap.size (.slice t len c) x.ds):=a0.o.alloc _;have aa:=zya z (.cells #[zI x.me,zI x.rv,zI x.nx,zI x.mo,zI x.bo,zI x.fr,.slice t len c] 55);have ab:=zya A (.cells #[zI x.me,zI x.rv,zI x.nx,zI x.mo,zI x.bo,zI x.fr,.slice t len c] 55);have ac:=zya k (.cells #[zI x.me,zI x.rv,zI x.nx,zI x.mo,zI x.bo,zI x.fr,.slice t len c] 55);have Y:=zye w3 #[zI x.me,zI x.rv,zI x.nx,zI x.mo,zI x.bo,zI x.fr,.slice t len c] 55;have a9:=zyf j (.cells #[zI x.me,zI x.rv,zI x.nx,zI x.mo,zI x.bo,zI x.fr,.slice t len c] 55);have aE:=(Blk.new w3 #[zI x.me,zI x.rv,zI x.nx,zI x.mo,zI x.bo,zI x.fr,.slice t len c] 55).lt;go_upto_region 8 with fail
     generalize (w3.alloc (.cells #[zI x.me,zI x.rv,zI x.nx,zI x.mo,zI x.bo,zI x.fr,.slice t len c] 55))=H at *;have C:Hid (Ld 42 (H.alloc (.cells #[zI q.a,zI q.b] 42)) F.heap.size (.slice t len c) x.ds):=aw.o.alloc _;have ar:=zyf a9 (.cells #[zI q.a,zI q.b] 42);have aN:=(Blk.new H #[zI q.a,zI q.b] 42).lt;have au:Hid ((H.alloc (.cells #[zI q.a,zI q.b] 42)).cell? ⟨H.heap.size,0,none⟩=some (zI q.a)∧(H.alloc (.cells #[zI q.a,zI q.b] 42)).cell? ⟨H.heap.size,1,none⟩=some (zI q.b)):=⟨(Blk.new H _ _).cell 0,(Blk.new H _ _).cell 1⟩
     have an:=zya aa (.cells #[zI q.a,zI q.b] 42);have ao:=zya ab (.cells #[zI q.a,zI q.b] 42);have aq:=zya ac (.cells #[zI q.a,zI q.b] 42);have ap:=zya Y (.cells #[zI q.a,zI q.b] 42);have aD:=zy6 Y;go_wp2_with (first|(at_builtin;refine tar.wp_pair deb.debtT rfl _ _ rfl F.heap.size H.heap.size (.slice t len c) x.ds q rfl rfl C.o au.o aC (by omega) ?_)|refine zw ?_)
     intro v5 w5 h5 n;have af:=zh (grown_blk an.o n (tar.own_far C.o (by omega)));have ag:=zh (grown_blk ao.o n (tar.own_far C.o (by omega)));have Z:=zh (grown_blk aq.o n (tar.own_far C.o (by omega)));have ah:Hid (Blk w5 (w3.heap.size) #[zI x.me,zI x.rv,zI x.nx,zI x.mo,zI x.bo,zI x.fr,.slice t len c] 55):=grown_blk ap.o n (λe=>by have:=(World.ownsRow.lt a0.o _ e.symm).2;omega);have ad:=zh (tar.own_bel C.o n ar.o (by omega) (by omega));have aG:=n.size;obtain⟨p5,c5,aB,a4⟩:=deb.ld_fresh h5 ax.o;subst aB;have a1:=zh (ld_ne h5 ah.o (by decide));have a2:=zh (ld_ne h5 Z.o (by decide));have ae:=zh a4;clear h5 n a4;clear aD;generalize (x.ds++[q]).length=n5 at *;go_wp2_with (first|refine zm ?_|refine zw ?_)
     intro W6 f;obtain⟨aI,aJ,aL⟩:=zk3 f af ag Z;have ai:=zk f ad;have aK:=zyb f;have aj:=zh (fresh_updN ae.o f a1.o);clear f;go_wp2_with (first|refine zs ?_|refine zw ?_)
     intro W7 f;have am:=zyb f;have ak:=zk f ai;have al:=zh (fresh_updN aj.o f a2.o);clear f;go_wp2_with fail;exact zr (.tuple #[.agg #[zI x.me,zI x.rv,zI x.nx,zI x.mo,zI x.bo,zI x.fr,.slice p5 n5 c5],zI 0]) (by simp[results,Tryz.results133,scl7 am,go_sem]) ⟨⟨x.me,x.rv,x.nx,x.mo,x.bo,x.fr,x.ds++[q]⟩,p5,n5,c5,_,rfl,ay.o,al.o.low (by omega),ak.o⟩
    ·have d3:decide (8≤(len:Int))=true:=decide_eq_true (by omega);have d4:decide (8≤len)=true:=decide_eq_true (by omega);have HV:Hid (OweIs x q ac0 16):=.inr (.inr (.inl ⟨V.o,⟨Q,R⟩,by rw[E];exact h3,rfl,rfl⟩));clear h3;have a7:=zy6 m;go_wp2_with (first|refine zs ?_|refine zw ?_)
     intro U f;obtain⟨z,A⟩:=zk2 f m g;have j:=zk f s;have k:=zyb f;have r:=f.size;clear f;go_wp2_with fail;exact zr (.tuple #[.agg #[zI 0,zI 0,zI 0,zI 0,zI 0,zI 0,zS],zI 16]) (by simp[results,Tryz.results133,scl7 k,go_sem]) ⟨ac0,none,0,0,_,rfl,HV.o,deb.fresh_nil _ _,j.o⟩
   ·rw[decide_eq_false R] at G;have HV:Hid (OweIs x q ac0 2):=.inr (.inl ⟨V.o,λhh=>R hh.2,rfl,rfl⟩);clear R;have T:=zy0 g;have a8:=zy1 g;go_wp2_with fail;refine(B.o _).mono ?_;rintro e I ⟨rfl,l⟩;obtain rfl:F=I:=l.symm;go_wp2_with fail;refine(G.o _).mono ?_;rintro e I ⟨rfl,l⟩;obtain rfl:F=I:=l.symm;go_wp2_with (first|refine zs ?_|refine zw ?_)
    intro U f;obtain⟨z,A⟩:=zk2 f m g;have j:=zk f s;have k:=zyb f;have r:=f.size;clear f;go_wp2_with fail;exact zr (.tuple #[.agg #[zI 0,zI 0,zI 0,zI 0,zI 0,zI 0,zS],zI 2]) (by simp[results,Tryz.results133,scl7 k,go_sem]) ⟨ac0,none,0,0,_,rfl,HV.o,deb.fresh_nil _ _,j.o⟩
  ·rw[decide_eq_false Q] at B;have HV:Hid (OweIs x q ac0 2):=.inr (.inl ⟨V.o,λhh=>Q hh.1,rfl,rfl⟩);clear Q;have T:=zy0 g;go_wp2_with fail;refine(B.o _).mono ?_;rintro e I ⟨rfl,l⟩;obtain rfl:F=I:=l.symm;go_wp2_with refine zs ?_;intro U f;obtain⟨z,A⟩:=zk2 f m g;have j:=zk f s;have k:=zyb f;have r:=f.size;clear f;go_wp2_with fail;exact zr (.tuple #[.agg #[zI 0,zI 0,zI 0,zI 0,zI 0,zI 0,zS],zI 2]) (by simp[results,Tryz.results133,scl7 k,go_sem]) ⟨ac0,none,0,0,_,rfl,HV.o,deb.fresh_nil _ _,j.o⟩
 ·have V:=zh S;obtain⟨P,O,J,K,L,u,aA⟩:=sh3 w #[zI x.me,zI x.rv,zI x.nx,zI x.mo,zI x.bo,zI x.fr,.slice p len cap] 55 #[zI q.a,zI q.b] 42 #[zI 0,zI 0,zI 0,zI 0,zI 0,zI 0,zS] 55;have y:=zh (h.below u.o);go_enter Tryz.func133,Tryz.ntmps133;go_upto_region 1 with fail
  rw[O.o];have N:Hid (zC 44 #[.agg #[zI x.me,zI x.rv,zI x.nx,zI x.mo,zI x.bo,zI x.fr,.slice p len cap]] P λe w'=>e=.returned (.bool false)∧zB P w'):=ranot x p len cap _ y.o hl S;go_wp2_with refine zw ?_;refine N.o.mono ?_;rintro e F ⟨rfl,i⟩;obtain⟨m,g,X⟩:=zn3 i J K L;have M:=zh (y.o.below i);have s:=shB u i;have a6:=i.size;clear i;go_wp2_with (first|refine zs ?_|refine zw ?_)
  intro U f;obtain⟨z,A⟩:=zk2 f m g;have j:=zk f s;have k:=zyb f;have r:=f.size;clear f;go_wp2_with fail;exact zr (.tuple #[.agg #[zI 0,zI 0,zI 0,zI 0,zI 0,zI 0,zS],zI 5]) (by simp[results,Tryz.results133,scl7 k,go_sem]) ⟨ac0,none,0,0,_,rfl,.inl ⟨V.o,rfl,rfl⟩,deb.fresh_nil _ _,j.o⟩
theorem rrolled(x:Ac)(p:Option Addr)(len cap:Nat)(m:Int)(w:World)(h:RowD w p len x.ds)(hl:len≤maxLen):Calls Tryz.prog 46 #[.agg #[zI x.me,zI x.rv,zI x.nx,zI x.mo,zI x.bo,zI x.fr,.slice p len cap],zI m] w λe w'=>APost w (RollIs x m) e w':=by
 have O:Hid (Blk ((w.alloc (.cells #[zI x.me,zI x.rv,zI x.nx,zI x.mo,zI x.bo,zI x.fr,.slice p len cap] 55)).alloc (.cells #[zI 0,zI 0,zI 0,zI 0,zI 0,zI 0,zS] 55)) w.heap.size #[zI x.me,zI x.rv,zI x.nx,zI x.mo,zI x.bo,zI x.fr,.slice p len cap] 55):=(Blk.new w _ _).alloc _;have A:Hid (Blk ((w.alloc (.cells #[zI x.me,zI x.rv,zI x.nx,zI x.mo,zI x.bo,zI x.fr,.slice p len cap] 55)).alloc (.cells #[zI 0,zI 0,zI 0,zI 0,zI 0,zI 0,zS] 55)) (w.heap.size+1) #[zI 0,zI 0,zI 0,zI 0,zI 0,zI 0,zS] 55):=Blk.new1 w _ _ _;have z:Hid (zB w ((w.alloc (.cells #[zI x.me,zI x.rv,zI x.nx,zI x.mo,zI x.bo,zI x.fr,.slice p len cap] 55)).alloc (.cells #[zI 0,zI 0,zI 0,zI 0,zI 0,zI 0,zS] 55))):=((Below.refl w.heap.size w).alloc (by simp) _).alloc (by simp) _;have i:=zh (h.below z.o);have u:=A.o.lt;have s:Hid (∀W,zC 47 #[zI m,zI 0,zI 2399] W λe w'=>e=.returned (.bool (decide (0≤m∧m≤2399)))∧w'=W):=λW=>cal.cin m 0 2399 W;by_cases y:AMay x
 ·have J:=y.2.2.2.2.1;have j:=y.1;have E:Hid (zC 44 #[.agg #[zI x.me,zI x.rv,zI x.nx,zI x.mo,zI x.bo,zI x.fr,.slice p len cap]] ((w.alloc (.cells #[zI x.me,zI x.rv,zI x.nx,zI x.mo,zI x.bo,zI x.fr,.slice p len cap] 55)).alloc (.cells #[zI 0,zI 0,zI 0,zI 0,zI 0,zI 0,zS] 55)) λe w'=>e=.returned (.bool true)∧Below ((w.alloc (.cells #[zI x.me,zI x.rv,zI x.nx,zI x.mo,zI x.bo,zI x.fr,.slice p len cap] 55)).alloc (.cells #[zI 0,zI 0,zI 0,zI 0,zI 0,zI 0,zS] 55)).heap.size ((w.alloc (.cells #[zI x.me,zI x.rv,zI x.nx,zI x.mo,zI x.bo,zI x.fr,.slice p len cap] 55)).alloc (.cells #[zI 0,zI 0,zI 0,zI 0,zI 0,zI 0,zS] 55)) w'):=ramay x p len cap _ i.o hl y;have L:=zh y;clear h y;generalize n:((w.alloc (.cells #[zI x.me,zI x.rv,zI x.nx,zI x.mo,zI x.bo,zI x.fr,.slice p len cap] 55)).alloc (.cells #[zI 0,zI 0,zI 0,zI 0,zI 0,zI 0,zS] 55))=W2 at *;have H:=zh n;clear n;go_enter Tryz.func46,Tryz.ntmps46;go_upto_region 1 with fail
  rw[H.o];go_wp2_with refine zw ?_;refine E.o.mono ?_;rintro e w1 ⟨rfl,d⟩;have r:=zh (O.o.below d (by omega));have P:=zh (A.o.below d (by omega));have l:=shB z d;have B:=zh (i.o.below d);have aq:w.heap.size+1<w1.heap.size:=Nat.lt_of_lt_of_le u d.size;clear d u;by_cases t:0≤m∧m≤2399
  ·rw[decide_eq_true t] at s;go_wp2_with fail;refine(s.o _).mono ?_;rintro e w2 ⟨rfl,K⟩;subst K;have Y:=zy3 r;have c6:=zy6 r;by_cases S:m<x.mo
   ·have an:decide (m<x.mo)=true:=decide_eq_true S;have F:Hid (RollIs x m ac0 23):=.inr (.inl ⟨L.o,λhh=>by have:=hh.2;omega,.inr ⟨t,S,rfl⟩,rfl⟩);clear t S J j;go_wp2_with refine zs ?_;intro M c;have b:=zyb c;have f:=zk c l;clear c;go_wp2_with fail;exact zr (.tuple #[.agg #[zI 0,zI 0,zI 0,zI 0,zI 0,zI 0,zS],zI 23]) (by simp[results,Tryz.results46,scl7 b,go_sem]) ⟨ac0,none,0,0,_,rfl,F.o,deb.fresh_nil _ _,f.o⟩
   ·have an:decide (m<x.mo)=false:=decide_eq_false S;have ak:=zh (rcopy x p len cap w2 B.o j);have R:Hid (RMay x m):=⟨t,by omega⟩
    go_wp2_with refine zw ?_;refine ak.o.mono ?_;rintro e k ⟨g,a,rfl,T,q⟩;unfold Ac.v Ac.cs;obtain⟨a2,a3⟩:=zn2 q r P;have Z:=shB l q;have a1:=zh (B.o.below q);have a0:=zh T;have ay:=q.size;have az:=(Blk.new k #[zI x.me,zI x.rv,zI x.nx,zI x.mo,zI x.bo,zI x.fr,.slice g len a] 55).lt;have a6:=zye k #[zI x.me,zI x.rv,zI x.nx,zI x.mo,zI x.bo,zI x.fr,.slice g len a] 55;have C:=zya a2 (.cells #[zI x.me,zI x.rv,zI x.nx,zI x.mo,zI x.bo,zI x.fr,.slice g len a] 55);have a7:=zya a3 (.cells #[zI x.me,zI x.rv,zI x.nx,zI x.mo,zI x.bo,zI x.fr,.slice g len a] 55);have Q:=zyf Z (.cells #[zI x.me,zI x.rv,zI x.nx,zI x.mo,zI x.bo,zI x.fr,.slice g len a] 55);have a5:Hid (RowD (k.alloc (.cells #[zI x.me,zI x.rv,zI x.nx,zI x.mo,zI x.bo,zI x.fr,.slice g len a] 55)) p len x.ds):=a1.o.below ((Below.refl k.heap.size k).alloc zc _);have a4:Hid (deb.Fresh (k.alloc (.cells #[zI x.me,zI x.rv,zI x.nx,zI x.mo,zI x.bo,zI x.fr,.slice g len a] 55)) w2.heap.size g len a x.ds):=a0.o.below ((Below.refl k.heap.size k).alloc zc _);clear T q Y c6;by_cases N:m=x.mo
    ·have ao:(m==x.mo)=true:=by simpa using N
     have G:Hid (RollIs x m x 0):=.inr (.inr ⟨L.o,R.o,by unfold rolled;rw[if_pos N],rfl⟩);have Y:=C.o.cell 3;clear N t S J j;go_upto_region 8 with fail
     generalize (k.alloc (.cells #[zI x.me,zI x.rv,zI x.nx,zI x.mo,zI x.bo,zI x.fr,.slice g len a] 55))=W4 at *;go_wp2_with (first|refine zw ?_|refine zs ?_)
     intro M c;have b:=zyb c;have f:=zk c Q;have D:Hid (deb.Fresh M w.heap.size g len a x.ds):=(fresh_upd a4.o c (by omega)).low (by omega);clear c;go_wp2_with fail;exact zr (.tuple #[.agg #[zI x.me,zI x.rv,zI x.nx,zI x.mo,zI x.bo,zI x.fr,.slice g len a],zI 0]) (by simp[results,Tryz.results46,zy0 b,zy1 b,zy2 b,zy3 b,zy4 b,zy5 b,zy6 b,go_sem]) ⟨x,g,len,a,_,rfl,G.o,D.o,f.o⟩
    ·have ao:(m==x.mo)=false:=by simpa using N
     have ap:((m-x.mo).toNat:Int)=m-x.mo:=by omega
     have G:Hid (rolled x m=⟨x.me,x.rv,x.nx,m,0,x.fr,deb.ageAll x.ds (m-x.mo).toNat⟩):=by show _=_;unfold rolled;rw[if_neg N]
     have aj:Hid (zC 88 #[.slice p len cap,zI (m-x.mo)] (k.alloc (.cells #[zI x.me,zI x.rv,zI x.nx,zI x.mo,zI x.bo,zI x.fr,.slice g len a] 55)) λe w'=>deb.AgePost (k.alloc (.cells #[zI x.me,zI x.rv,zI x.nx,zI x.mo,zI x.bo,zI x.fr,.slice g len a] 55)) x.ds (m-x.mo) e w'):=deb.rages p len cap x.ds (m-x.mo) _ a5.o hl;have X:0≤m-x.mo∧m-x.mo≤2400:=by omega
     have al:=zh j;have am:=zh X;have Y:=C.o.cell 3;have c6:=C.o.cell 6;clear N j X ap;go_upto_region 8 with fail
     generalize (k.alloc (.cells #[zI x.me,zI x.rv,zI x.nx,zI x.mo,zI x.bo,zI x.fr,.slice g len a] 55))=W4 at *;go_wp2_with fail;refine aj.o.mono ?_;rintro e w5 ⟨p5,n5,c5,z5,f5,rfl,V,U,I⟩;obtain⟨rfl,rfl⟩:=V.got al.o am.o;obtain⟨ar,aa⟩:=zn2 I a6 a7;have a8:=shB Q I;have a9:=zh U;clear V U I Y c6;go_wp2_with refine zm ?_;intro W6 c;have au:=zyb c;have ad:=zk1 c aa;have ab:=zk c a8;have ac:=zh (fresh_upd a9.o c (by omega));clear c;go_wp2_with refine zl ?_;intro W7 c;have av:=zyb c;have ag:=zk1 c ad;have ae:=zk c ab;have af:=zh (fresh_upd ac.o c (by omega));clear c;go_wp2_with refine zl ?_;intro W8 c;have aw:=zyb c;have ax:=zk1 c ag;have ah:=zk c ae;have ai:=zh (fresh_upd af.o c (by omega));clear c;go_wp2_with (first|refine zw ?_|refine zs ?_)
     intro M c;have b:=zyb c;have f:=zk c ah;have D:Hid (deb.Fresh M w.heap.size p5 n5 c5 (deb.ageAll x.ds (m-x.mo).toNat)):=(fresh_upd ai.o c (by omega)).low (by omega);clear c;go_wp2_with fail;exact zr (.tuple #[.agg #[zI x.me,zI x.rv,zI x.nx,zI m,zI 0,zI x.fr,.slice p5 n5 c5],zI 0]) (by simp[results,Tryz.results46,zy0 b,zy1 b,zy2 b,zy3 b,zy4 b,zy5 b,zy6 b,go_sem]) ⟨⟨x.me,x.rv,x.nx,m,0,x.fr,deb.ageAll x.ds (m-x.mo).toNat⟩,p5,n5,c5,_,rfl,.inr (.inr ⟨L.o,R.o,G.o.symm,rfl⟩),D.o,f.o⟩
  ·rw[decide_eq_false t] at s;have F:Hid (RollIs x m ac0 2):=.inr (.inl ⟨L.o,λhh=>t hh.1,.inl ⟨t,rfl⟩,rfl⟩);clear t J j;go_wp2_with fail;refine(s.o _).mono ?_;rintro e w2 ⟨rfl,K⟩;subst K;go_wp2_with refine zs ?_;intro M c;have b:=zyb c;have f:=zk c l;clear c;go_wp2_with fail;exact zr (.tuple #[.agg #[zI 0,zI 0,zI 0,zI 0,zI 0,zI 0,zS],zI 2]) (by simp[results,Tryz.results46,scl7 b,go_sem]) ⟨ac0,none,0,0,_,rfl,F.o,deb.fresh_nil _ _,f.o⟩
 ·skip
  have E:Hid (zC 44 #[.agg #[zI x.me,zI x.rv,zI x.nx,zI x.mo,zI x.bo,zI x.fr,.slice p len cap]] ((w.alloc (.cells #[zI x.me,zI x.rv,zI x.nx,zI x.mo,zI x.bo,zI x.fr,.slice p len cap] 55)).alloc (.cells #[zI 0,zI 0,zI 0,zI 0,zI 0,zI 0,zS] 55)) λe w'=>e=.returned (.bool false)∧Below ((w.alloc (.cells #[zI x.me,zI x.rv,zI x.nx,zI x.mo,zI x.bo,zI x.fr,.slice p len cap] 55)).alloc (.cells #[zI 0,zI 0,zI 0,zI 0,zI 0,zI 0,zS] 55)).heap.size ((w.alloc (.cells #[zI x.me,zI x.rv,zI x.nx,zI x.mo,zI x.bo,zI x.fr,.slice p len cap] 55)).alloc (.cells #[zI 0,zI 0,zI 0,zI 0,zI 0,zI 0,zS] 55)) w'):=ranot x p len cap _ i.o hl y;have L:=zh y;clear h y;generalize n:((w.alloc (.cells #[zI x.me,zI x.rv,zI x.nx,zI x.mo,zI x.bo,zI x.fr,.slice p len cap] 55)).alloc (.cells #[zI 0,zI 0,zI 0,zI 0,zI 0,zI 0,zS] 55))=W2 at *;have H:=zh n;clear n;go_enter Tryz.func46,Tryz.ntmps46;go_upto_region 1 with fail
  rw[H.o];go_wp2_with refine zw ?_;refine E.o.mono ?_;rintro e w1 ⟨rfl,d⟩;have r:=zh (O.o.below d (by omega));have P:=zh (A.o.below d (by omega));have l:=shB z d;have B:=zh (i.o.below d);have aq:w.heap.size+1<w1.heap.size:=Nat.lt_of_lt_of_le u d.size;clear d u;go_wp2_with refine zs ?_;intro M c;have b:=zyb c;have f:=zk c l;clear c;go_wp2_with fail;exact zr (.tuple #[.agg #[zI 0,zI 0,zI 0,zI 0,zI 0,zI 0,zS],zI 5]) (by simp[results,Tryz.results46,scl7 b,go_sem]) ⟨ac0,none,0,0,_,rfl,.inl ⟨L.o,rfl,rfl⟩,deb.fresh_nil _ _,f.o⟩
end acc
namespace tar
open Go.RowKit
theorem roverlap(lo hi x y:Int)(w:World)(h0:0≤lo∧lo≤10000000)(h1:0≤hi∧hi≤10000000)(h2:0≤x∧x≤10000000)(h3:0≤y∧y≤10000000):Calls Tryz.prog 135 #[zI lo,zI hi,zI x,zI y] w λe w'=>e=.returned (zI (ov lo hi x y))∧w'=w:=by
 obtain⟨k,l⟩:=h0;obtain⟨m,n⟩:=h1;obtain⟨c0,c1⟩:=h2;obtain⟨r,s⟩:=h3
 have c:Hid (∀z,(max lo x≤min hi y→z=min hi y-max lo x)→(min hi y<max lo x→z=0)→z=ov lo hi x y):=λz i j=>by
  unfold ov;by_cases h:max lo x≤min hi y
  ·have:=i h;omega
  ·have:=j (by omega);omega
 by_cases p:lo<x
 ·have q:decide (lo<x)=true:=decide_eq_true p;by_cases f:y<hi
  ·have g:decide (y<hi)=true:=decide_eq_true f;by_cases b:y<x
   ·have d:decide (y<x)=true:=decide_eq_true b;have a:Hid ((0:Int)=ov lo hi x y):=c.o 0 (λh=>by omega) (λ_=>rfl);go_enter Tryz.func135,Tryz.ntmps135;go_wp2_with fail;go_ret;exact⟨by rw[← a.o];rfl,rfl⟩
   ·have d:decide (y<x)=false:=decide_eq_false b;have a:Hid (y-x=ov lo hi x y):=c.o _ (λh=>by omega) (λh=>by omega);go_enter Tryz.func135,Tryz.ntmps135;go_wp2_with fail;go_ret;exact⟨by rw[← a.o];rfl,rfl⟩
  ·have g:decide (y<hi)=false:=decide_eq_false f;by_cases b:hi<x
   ·have d:decide (hi<x)=true:=decide_eq_true b;have a:Hid ((0:Int)=ov lo hi x y):=c.o 0 (λh=>by omega) (λ_=>rfl);go_enter Tryz.func135,Tryz.ntmps135;go_wp2_with fail;go_ret;exact⟨by rw[← a.o];rfl,rfl⟩
   ·have d:decide (hi<x)=false:=decide_eq_false b;have a:Hid (hi-x=ov lo hi x y):=c.o _ (λh=>by omega) (λh=>by omega);go_enter Tryz.func135,Tryz.ntmps135;go_wp2_with fail;go_ret;exact⟨by rw[← a.o];rfl,rfl⟩
 ·have q:decide (lo<x)=false:=decide_eq_false p;by_cases f:y<hi
  ·have g:decide (y<hi)=true:=decide_eq_true f;by_cases b:y<lo
   ·have d:decide (y<lo)=true:=decide_eq_true b;have a:Hid ((0:Int)=ov lo hi x y):=c.o 0 (λh=>by omega) (λ_=>rfl);go_enter Tryz.func135,Tryz.ntmps135;go_wp2_with fail;go_ret;exact⟨by rw[← a.o];rfl,rfl⟩
   ·have d:decide (y<lo)=false:=decide_eq_false b;have a:Hid (y-lo=ov lo hi x y):=c.o _ (λh=>by omega) (λh=>by omega);go_enter Tryz.func135,Tryz.ntmps135;go_wp2_with fail;go_ret;exact⟨by rw[← a.o];rfl,rfl⟩
  ·have g:decide (y<hi)=false:=decide_eq_false f;by_cases b:hi<lo
   ·have d:decide (hi<lo)=true:=decide_eq_true b;have a:Hid ((0:Int)=ov lo hi x y):=c.o 0 (λh=>by omega) (λ_=>rfl);go_enter Tryz.func135,Tryz.ntmps135;go_wp2_with fail;go_ret;exact⟨by rw[← a.o];rfl,rfl⟩
   ·have d:decide (hi<lo)=false:=decide_eq_false b;have a:Hid (hi-lo=ov lo hi x y):=c.o _ (λh=>by omega) (λh=>by omega);go_enter Tryz.func135,Tryz.ntmps135;go_wp2_with fail;go_ret;exact⟨by rw[← a.o];rfl,rfl⟩
theorem rcost(a:Option Addr)(n cap:Nat)(ls:List Du)(x y:Int)(w:World)(hr:RowD w a n ls)(hR:Right ls)(hx:0≤x)(hxy:x≤y)(hy:y≤10000000):Calls Tryz.prog 91 #[.slice a n cap,zI x,zI y] w λe w'=>ValPost w (cost ls x y) e w':=by
 have f:=hr.1;have E:1≤n:=by have:=hR.1.1;omega
 have O:n≤8:=by have:=hR.1.2;omega
 obtain⟨b,c,rfl,l,G⟩:=hr.at E;have F:=zh G;have d:=zh f;have g:=zh hR;have A:Hid (0≤x∧x≤y∧y≤10000000):=⟨hx,hxy,hy⟩
 clear G hr f hR;go_enter Tryz.func91,Tryz.ntmps91;go_wp2_with fail;go_loopw [7,8,9] (λu v z wr=>∃k:Nat,k≤n∧z=zI (k:Int)∧u=zI (costK ls x y k)∧v=zI (low ls k)∧zB w wr) (λ_ _ z _=>n-(intOf z).toNat)
 case atStart=>exact⟨0,Nat.zero_le _,rfl,rfl,rfl,zb⟩
 case round=>
  obtain⟨k,V,rfl,rfl,rfl,j⟩:=hrel;by_cases i:k<n
  ·have C:decide ((k:Int)<(n:Int))=true:=by simp;omega
   have m:k<ls.length:=by rw[d.o];exact i
   have c0:wr.cell? ⟨b,c+k*2,none⟩=some (zI (ls.getD k du0).a):=(j.cell (p:=⟨b,c+k*2,none⟩) l).trans (F.o k i).1;have c1:wr.cell? ⟨b,c+k*2+1,none⟩=some (zI (ls.getD k du0).b):=(j.cell (p:=⟨b,c+k*2+1,none⟩) l).trans (F.o k i).2;have r:=zh j;have H:=g.o.price k m;have Q:=g.o.upto k m;have q:=g.o.low_pos k (by omega);have D:low ls k≤10000000:=by have:=low_mono g.o k ls.length (by omega) zc;rw[g.o.low_end] at this;exact this
   have t:Hid (∀W,zC 135 #[zI (low ls k),zI (ls.getD k du0).a,zI x,zI y] W λe w'=>e=.returned (zI (ov (low ls k) (ls.getD k du0).a x y))∧w'=W):=λW=>roverlap _ _ x y W ⟨q,D⟩ ⟨by omega,by omega⟩ ⟨by omega,by omega⟩ ⟨by omega,by omega⟩;have L:=costK_pos g.o x y k (by omega);have M:=costK_le g.o x y A.o.1 A.o.2.1 A.o.2.2 k (by omega);have P:=prod_bd (ov_pos (low ls k) (ls.getD k du0).a x y) (ov_le _ _ x y q Q.2) H.1 H.2;have J:=zh (costK_next ls x y k).symm;have I:=zh (low_next ls k).symm;clear j;generalize costK ls x y k=B at *;generalize low ls k=T at *;generalize ov T (ls.getD k du0).a x y=o at *;generalize (ls.getD k du0).a=u at *;generalize (ls.getD k du0).b=p at *;have R:IntKind.i64.wrap (o*p)=o*p:=by rw[IntKind.wrap_i64];omega
   have S:IntKind.i64.wrap (B+o*p)=B+o*p:=by rw[IntKind.wrap_i64];omega
   go_wp2_with fail;go_quiet (exact(t.o _).mono λ_ _ h=>⟨h.1,_,h.2⟩);have U:=c0;have s:=zh (bel_drewN r.o nq);go_wp2_with fail;go_roundw
   case rel=>exact⟨k+1,by omega,by go_num,by rw[← J.o],by rw[← I.o],s.o⟩
   case measure=>simp[intOf];omega
  ·obtain rfl:k=n:=by omega
   have C:decide ((k:Int)<(k:Int))=false:=by simp
   have K:Hid (costK ls x y k=cost ls x y):=by show _=_;unfold cost;rw[d.o]
   have r:=zh j;clear j;generalize N:costK ls x y k=B at *;go_wp2_with fail;go_ret;exact⟨by rw[← K.o];rfl,r.o⟩
theorem rmost(a:Option Addr)(len cap:Nat)(ls:List Du)(x m:Int)(w:World)(hr:RowD w a len ls)(hl:len≤maxLen):Calls Tryz.prog 50 #[.slice a len cap,zI x,zI m] w λe w'=>ThreePost w (MostIs ls x m) e w':=by
 have a0:=zh (rmay a len cap ls x 0 w hr hl);have E:Hid (∀W,zC 47 #[zI m,zI 0,zI 1000000000000] W λe w'=>e=.returned (.bool (decide (0≤m∧m≤1000000000000)))∧w'=W):=λW=>cal.cin m 0 1000000000000 W;go_enter Tryz.func50,Tryz.ntmps50;go_wp2_with fail;refine a0.o.mono ?_;rintro e w1 ⟨f,rfl,hf,hb⟩;have P:=zh hb;by_cases h0:f=0
 ·subst h0;have Q:=hf.ok.1 rfl;have X:=Q.2.1.1;have a6:=Q.2.1.2;have HR:=zh Q.1;have D:Hid (∀(u:Nat) W,zB w1 W→x+(u:Int)≤10000000→zC 91 #[.slice a len cap,zI x,zI (x+(u:Int))] W λe w'=>ValPost W (cost ls x (x+(u:Int))) e w'):=λu W hW hu=>rcost a len cap ls x (x+(u:Int)) W ((hr.below hb).below hW) Q.1 X (by omega) hu;clear hf hb hr hl;by_cases s:0≤m∧m≤1000000000000
  ·rw[decide_eq_true s] at E;have R:Hid (MayMost x m):=⟨⟨X,a6⟩,s⟩
   obtain⟨a5,V⟩:=s;obtain⟨T,hT⟩:∃T:Nat,Top x=(T:Int):=⟨(Top x).toNat,by unfold Top;omega⟩
   have HT:=zh hT;have U:(T:Int)=2097151∨(T:Int)=10000000-x:=by unfold Top at hT;omega
   have a7:x+(T:Int)≤10000000:=by unfold Top at hT;omega
   have a8:(T:Int)≤2097151:=by unfold Top at hT;omega
   have HZ:Hid (cost ls x (x+((0:Nat):Int))≤m):=by show _≤_;rw[show x+((0:Nat):Int)=x by omega,cost_self HR.o];exact a5
   clear Q;go_wp2_with fail;refine(E.o _).mono ?_;rintro e Y ⟨rfl,O⟩;subst O;by_cases hd:10000000-x<2097151
   ·have a2:decide (10000000-x<2097151)=true:=decide_eq_true hd;have G:Hid (10000000-x=(T:Int)):=by show _=_;unfold Top at hT;omega
    clear hT U;go_wp2_with fail;go_loopw [10,11] (λu v wr=>∃l h:Nat,l≤h∧h≤T∧u=zI (l:Int)∧v=zI (h:Int)∧cost ls x (x+(l:Int))≤m∧(h=T∨m<cost ls x (x+((h:Int)+1)))∧zB Y wr) (λu v _=>(intOf v).toNat-(intOf u).toNat)
    case atStart=>exact⟨0,T,Nat.zero_le _,zc,rfl,by rw[← G.o],HZ.o,.inl rfl,zb⟩
    case round=>
     obtain⟨l,h,a3,hh,rfl,rfl,A,B,z⟩:=hrel;have t:=zh A;have y:=zh B;have g:=zh z;clear A B z;by_cases a4:l<h
     ·have L:decide ((l:Int)<(h:Int))=true:=by simp;omega
      have hq:Int.tdiv ((l:Int)+(h:Int)+1) 2=(((l+h+1)/2:Nat):Int):=by rw[Int.tdiv_eq_ediv_of_nonneg (by omega)];omega
      have V:l<(l+h+1)/2:=by omega
      have N:(l+h+1)/2≤h:=by omega
      generalize (l+h+1)/2=d at *;have k:=zh (D.o d wr g.o (by omega));by_cases j:cost ls x (x+(d:Int))≤m
      ·have n:=zh j;have K:decide (cost ls x (x+(d:Int))≤m)=true:=decide_eq_true j;clear j;generalize C:cost ls x (x+(d:Int))=c at *;have F:=zh C;clear C;go_wp2_with fail;refine k.o.mono ?_;rintro e Z ⟨rfl,b⟩;have i:=shB g b;clear b;go_wp2_with fail;go_roundw
       case rel=>exact⟨d,h,N,hh,rfl,rfl,by rw[F.o];exact n.o,y.o,i.o⟩
       case measure=>simp only[intOf];omega
      ·have n:Hid (m<cost ls x (x+(((d-1:Nat):Int)+1))):=by show _<_;rw[show (((d-1:Nat):Int)+1)=(d:Int) by omega];omega
       have K:decide (cost ls x (x+(d:Int))≤m)=false:=decide_eq_false j;have M:(d:Int)-1=((d-1:Nat):Int):=by omega
       clear j;have I:l≤d-1:=by omega
       have J:d-1≤T:=by omega
       have a1:d-1<h:=by omega
       generalize d-1=d1 at *;generalize cost ls x (x+(d:Int))=c at *;go_wp2_with fail;refine k.o.mono ?_;rintro e Z ⟨rfl,b⟩;have i:=shB g b;clear b;go_wp2_with fail;go_roundw
       case rel=>exact⟨l,d1,I,J,rfl,by first|rfl|(rw[M])|go_num,t.o,.inr n.o,i.o⟩
       case measure=>simp only[intOf];omega
     ·obtain rfl:l=h:=by omega
      have L:decide ((l:Int)<(l:Int))=false:=by simp
      have k:=zh (D.o l wr g.o (by omega));have H:Hid (MostIs ls x m (l:Int) (cost ls x (x+(l:Int))) 0):=.inr (.inr ⟨HR.o,R.o,rfl,⟨⟨by omega,by rw[HT.o];omega⟩,t.o,by rcases y.o with S|S;exact .inl (by rw[HT.o];omega);exact .inr S⟩,rfl⟩);generalize cost ls x (x+(l:Int))=c at *;go_wp2_with fail;refine k.o.mono ?_;rintro e Z ⟨rfl,b⟩;have i:=zh (P.o.trans ((g.o.trans (b.mono g.o.size)).mono P.o.size));clear b;go_wp2_with fail;go_ret3;exact⟨_,_,_,rfl,H.o,i.o⟩
   ·have a2:decide (10000000-x<2097151)=false:=decide_eq_false hd;have G:Hid (2097151=(T:Int)):=by show _=_;unfold Top at hT;omega
    clear hT U;go_wp2_with fail;go_loopw [10,11] (λu v wr=>∃l h:Nat,l≤h∧h≤T∧u=zI (l:Int)∧v=zI (h:Int)∧cost ls x (x+(l:Int))≤m∧(h=T∨m<cost ls x (x+((h:Int)+1)))∧zB Y wr) (λu v _=>(intOf v).toNat-(intOf u).toNat)
    case atStart=>exact⟨0,T,Nat.zero_le _,zc,rfl,by rw[← G.o],HZ.o,.inl rfl,zb⟩
    case round=>
     obtain⟨l,h,a3,hh,rfl,rfl,A,B,z⟩:=hrel;have t:=zh A;have y:=zh B;have g:=zh z;clear A B z;by_cases a4:l<h
     ·have L:decide ((l:Int)<(h:Int))=true:=by simp;omega
      have hq:Int.tdiv ((l:Int)+(h:Int)+1) 2=(((l+h+1)/2:Nat):Int):=by rw[Int.tdiv_eq_ediv_of_nonneg (by omega)];omega
      have V:l<(l+h+1)/2:=by omega
      have N:(l+h+1)/2≤h:=by omega
      generalize (l+h+1)/2=d at *;have k:=zh (D.o d wr g.o (by omega));by_cases j:cost ls x (x+(d:Int))≤m
      ·have n:=zh j;have K:decide (cost ls x (x+(d:Int))≤m)=true:=decide_eq_true j;clear j;generalize C:cost ls x (x+(d:Int))=c at *;have F:=zh C;clear C;go_wp2_with fail;refine k.o.mono ?_;rintro e Z ⟨rfl,b⟩;have i:=shB g b;clear b;go_wp2_with fail;go_roundw
       case rel=>exact⟨d,h,N,hh,rfl,rfl,by rw[F.o];exact n.o,y.o,i.o⟩
       case measure=>simp only[intOf];omega
      ·have n:Hid (m<cost ls x (x+(((d-1:Nat):Int)+1))):=by show _<_;rw[show (((d-1:Nat):Int)+1)=(d:Int) by omega];omega
       have K:decide (cost ls x (x+(d:Int))≤m)=false:=decide_eq_false j;have M:(d:Int)-1=((d-1:Nat):Int):=by omega
       clear j;have I:l≤d-1:=by omega
       have J:d-1≤T:=by omega
       have a1:d-1<h:=by omega
       generalize d-1=d1 at *;generalize cost ls x (x+(d:Int))=c at *;go_wp2_with fail;refine k.o.mono ?_;rintro e Z ⟨rfl,b⟩;have i:=shB g b;clear b;go_wp2_with fail;go_roundw
       case rel=>exact⟨l,d1,I,J,rfl,by first|rfl|(rw[M])|go_num,t.o,.inr n.o,i.o⟩
       case measure=>simp only[intOf];omega
     ·obtain rfl:l=h:=by omega
      have L:decide ((l:Int)<(l:Int))=false:=by simp
      have k:=zh (D.o l wr g.o (by omega));have H:Hid (MostIs ls x m (l:Int) (cost ls x (x+(l:Int))) 0):=.inr (.inr ⟨HR.o,R.o,rfl,⟨⟨by omega,by rw[HT.o];omega⟩,t.o,by rcases y.o with S|S;exact .inl (by rw[HT.o];omega);exact .inr S⟩,rfl⟩);generalize cost ls x (x+(l:Int))=c at *;go_wp2_with fail;refine k.o.mono ?_;rintro e Z ⟨rfl,b⟩;have i:=zh (P.o.trans ((g.o.trans (b.mono g.o.size)).mono P.o.size));clear b;go_wp2_with fail;go_ret3;exact⟨_,_,_,rfl,H.o,i.o⟩
  ·rw[decide_eq_false s] at E;have H:Hid (MostIs ls x m 0 0 2):=.inr (.inl ⟨HR.o,λh=>s h.2,rfl,rfl,rfl⟩);clear s Q;go_wp2_with fail;refine(E.o _).mono ?_;rintro e Y ⟨rfl,O⟩;subst O;go_wp2_with fail;go_ret3;exact⟨_,_,_,rfl,H.o,P.o⟩
 ·have a9:(f != 0)=true:=by simpa using h0
  have H:Hid (MostIs ls x m 0 0 f):=by
   rcases hf with⟨p,q⟩|⟨p,q,r⟩|⟨p,q,r⟩
   ·exact .inl ⟨p,q,rfl,rfl⟩
   ·exact .inr (.inl ⟨p,λh=>q ⟨h.1,⟨by decide,by decide⟩,by have:=h.1.2;omega⟩,r,rfl,rfl⟩)
   ·exact absurd r h0
  clear hf h0 hb hr hl;go_wp2_with fail;go_ret3;exact⟨_,_,_,rfl,H.o,P.o⟩
end tar
end Go.Proofs.YtoepgdhiepedeaaGreatDoor
