import Derived.Test.YtoepgdhiepedeaaGreatDoorVVGts12
import Derived.Test.YtoepgdhiepedeaaGreatDoorVVGts14
import Derived.Test.YtoepgdhiepedeaaGreatDoorVVGts16
set_option linter.unusedVariables false
set_option linter.unusedSimpArgs false
set_option maxHeartbeats 4000000
set_option maxRecDepth 100000
namespace Go.Proofs.YtoepgdhiepedeaaGreatDoor
namespace acc
open tar (Du du0 Came RowD Ld PairT)
open Go.RowKit
theorem rowes(x:Ac)(p:Option Addr)(len cap:Nat)(q:Du)(w:World)(h:RowD w p len x.ds)(hl:len≤maxLen):Calls Tryz.prog 133 #[.agg #[zI x.me,zI x.rv,zI x.nx,zI x.mo,zI x.bo,zI x.fr,.slice p len cap],.agg #[zI q.a,zI q.b]] w λe w'=>APost w (OweIs x q) e w':=by
 have E:=h.1;have B:Hid (∀W,zC 47 #[zI q.a,zI 1,zI 1000000000] W λe w'=>e=.returned (.bool (decide (1≤q.a∧q.a≤1000000000)))∧w'=W):=λW=>cal.cin q.a 1 1000000000 W;have G:Hid (∀W,zC 47 #[zI q.b,zI 0,zI 10000] W λe w'=>e=.returned (.bool (decide (0≤q.b∧q.b≤10000)))∧w'=W):=λW=>cal.cin q.b 0 10000 W;by_cases S:AMay x
 ·have V:=zh S;have a3:=S.1;have aM:len≤8:=by have:=S.1.1;omega
  obtain⟨P,O,J,K,L,u,aA⟩:=sh3 w #[zI x.me,zI x.rv,zI x.nx,zI x.mo,zI x.bo,zI x.fr,.slice p len cap] 55 #[zI q.a,zI q.b] 42 #[zI 0,zI 0,zI 0,zI 0,zI 0,zI 0,zS] 55;have y:=zh (h.below u.o);go_enter Tryz.func133,Tryz.ntmps133;go_upto_region 1 with fail
  rw[O.o];have N:Hid (zC 44 #[.agg #[zI x.me,zI x.rv,zI x.nx,zI x.mo,zI x.bo,zI x.fr,.slice p len cap]] P λe w'=>e=.returned (.bool true)∧zB P w'):=ramay x p len cap _ y.o hl S;go_wp2_with refine zw ?_;refine N.o.mono ?_;rintro e F ⟨rfl,i⟩;obtain⟨m,g,X⟩:=zn3 i J K L;have M:=zh (y.o.below i);have s:=shB u i;have a6:=i.size;clear i;clear S;by_cases Q:1≤q.a∧q.a≤1000000000
  ·rw[decide_eq_true Q] at B;by_cases R:0≤q.b∧q.b≤10000
   ·rw[decide_eq_true R] at G;have T:=zy0 g;have a8:=zy1 g;go_wp2_with fail;refine(B.o _).mono ?_;rintro e I ⟨rfl,l⟩;obtain rfl:F=I:=l.symm;go_wp2_with fail;refine(G.o _).mono ?_;rintro e I ⟨rfl,l⟩;obtain rfl:F=I:=l.symm;clear T a8;by_cases h3:len<8
    ·have d3:decide (8≤(len:Int))=false:=decide_eq_false (by omega);have d4:decide (8≤len)=false:=decide_eq_false (by omega);have av:=zh (rcopyL x p len cap F M.o a3)
     have ax:Hid (deb.Mays (x.ds++[q])):=⟨by rw [List.length_append,E];show len+1≤8;omega,deb.fits_mem fun d hd=>by
      rcases List.mem_append.1 hd with hd|hd
      ·exact deb.mem_fits a3.2 d hd
      ·have e2:=List.mem_singleton.1 hd;subst e2
       exact ⟨⟨by omega,Q.2⟩,R⟩⟩
     have aC:x.ds.length≤1000000:=by omega
     have ay:Hid (OweIs x q ⟨x.me,x.rv,x.nx,x.mo,x.bo,x.fr,x.ds++[q]⟩ 0):=.inr (.inr (.inr ⟨V.o,⟨Q,R⟩,by rw[E];exact h3,rfl,rfl⟩));have a7:=zy6 m;go_wp2_with refine zw ?_;refine av.o.mono ?_;rintro e w3 ⟨t,c,rfl,az,a5,D⟩;obtain⟨z,A,k⟩:=zn3 D m g X;have aH:=zh (M.o.below D);have j:=shB s D;have aF:=D.size;clear D;clear a7;unfold Ac.v Ac.cs;have a0:=zh a5;clear az a5;have aw:Hid (Ld 42 (w3.alloc (.cells #[zI x.me,zI x.rv,zI x.nx,zI x.mo,zI x.bo,zI x.fr,.slice t len c] 55)) F.heap.size (.slice t len c) x.ds):=a0.o.alloc _;have aa:=zya z (.cells #[zI x.me,zI x.rv,zI x.nx,zI x.mo,zI x.bo,zI x.fr,.slice t len c] 55);have ab:=zya A (.cells #[zI x.me,zI x.rv,zI x.nx,zI x.mo,zI x.bo,zI x.fr,.slice t len c] 55);have ac:=zya k (.cells #[zI x.me,zI x.rv,zI x.nx,zI x.mo,zI x.bo,zI x.fr,.slice t len c] 55);have Y:=zye w3 #[zI x.me,zI x.rv,zI x.nx,zI x.mo,zI x.bo,zI x.fr,.slice t len c] 55;have a9:=zyf j (.cells #[zI x.me,zI x.rv,zI x.nx,zI x.mo,zI x.bo,zI x.fr,.slice t len c] 55);have aE:=(Blk.new w3 #[zI x.me,zI x.rv,zI x.nx,zI x.mo,zI x.bo,zI x.fr,.slice t len c] 55).lt;go_upto_region 8 with fail
     generalize (w3.alloc (.cells #[zI x.me,zI x.rv,zI x.nx,zI x.mo,zI x.bo,zI x.fr,.slice t len c] 55))=H at *;have C:Hid (Ld 42 (H.alloc (.cells #[zI q.a,zI q.b] 42)) F.heap.size (.slice t len c) x.ds):=aw.o.alloc _;have ar:=zyf a9 (.cells #[zI q.a,zI q.b] 42);have aN:=(Blk.new H #[zI q.a,zI q.b] 42).lt;have au:Hid ((H.alloc (.cells #[zI q.a,zI q.b] 42)).cell? ⟨H.heap.size,0,none⟩=some (zI q.a)∧(H.alloc (.cells #[zI q.a,zI q.b] 42)).cell? ⟨H.heap.size,1,none⟩=some (zI q.b)):=⟨(Blk.new H _ _).cell 0,(Blk.new H _ _).cell 1⟩
     have an:=zya aa (.cells #[zI q.a,zI q.b] 42);have ao:=zya ab (.cells #[zI q.a,zI q.b] 42);have aq:=zya ac (.cells #[zI q.a,zI q.b] 42);have ap:=zya Y (.cells #[zI q.a,zI q.b] 42);have aD:=zy6 Y;go_wp2_with (first|(at_builtin;refine tar.wp_pair deb.debtT rfl _ _ rfl F.heap.size H.heap.size (.slice t len c) x.ds q rfl rfl C.o au.o aC (by omega) ?_)|refine zw ?_)
     intro v5 w5 h5 n;have af:=zh (grown_blk an.o n (tar.own_far C.o (by omega)));have ag:=zh (grown_blk ao.o n (tar.own_far C.o (by omega)));have Z:=zh (grown_blk aq.o n (tar.own_far C.o (by omega)));have ah:Hid (Blk w5 (w3.heap.size) #[zI x.me,zI x.rv,zI x.nx,zI x.mo,zI x.bo,zI x.fr,.slice t len c] 55):=grown_blk ap.o n (λe=>by have:=(World.ownsRow.lt a0.o _ e.symm).2;omega);have ad:=zh (tar.own_bel C.o n ar.o (by omega) (by omega));have aG:=n.size;obtain⟨p5,c5,aB,a4⟩:=deb.ld_fresh h5 ax.o;subst aB;have a1:=zh (ld_ne h5 ah.o (by decide));have a2:=zh (ld_ne h5 Z.o (by decide));have ae:=zh a4;clear h5 n a4;clear aD;generalize (x.ds++[q]).length=n5 at *;go_wp2_with (first|refine zm ?_|refine zw ?_)
     intro W6 f;obtain⟨aI,aJ,aL⟩:=zk3 f af ag Z;have ai:=zk f ad;have aK:=zyb f;have aj:=zh (fresh_updN ae.o f a1.o);clear f;go_wp2_with (first|refine zs ?_|refine zw ?_)
     intro W7 f;have am:=zyb f;have ak:=zk f ai;have al:=zh (fresh_updN aj.o f a2.o);clear f;go_wp2_with fail;exact zr (.tuple #[.agg #[zI x.me,zI x.rv,zI x.nx,zI x.mo,zI x.bo,zI x.fr,.slice p5 n5 c5],zI 0]) (by simp[results,Tryz.results133,scl7 am,go_sem]) ⟨⟨x.me,x.rv,x.nx,x.mo,x.bo,x.fr,x.ds++[q]⟩,p5,n5,c5,_,rfl,ay.o,al.o.low (by omega),ak.o⟩
    ·have d3:decide (8≤(len:Int))=true:=decide_eq_true (by omega);have d4:decide (8≤len)=true:=decide_eq_true (by omega);have HV:Hid (OweIs x q ac0 16):=.inr (.inr (.inl ⟨V.o,⟨Q,R⟩,by rw[E];exact h3,rfl,rfl⟩));clear h3;have a7:=zy6 m;go_wp2_with (first|refine zs ?_|refine zw ?_)
     intro U f;obtain⟨z,A⟩:=zk2 f m g;have j:=zk f s;have k:=zyb f;have r:=f.size;clear f;go_wp2_with fail;exact zr (.tuple #[.agg #[zI 0,zI 0,zI 0,zI 0,zI 0,zI 0,zS],zI 16]) (by simp[results,Tryz.results133,scl7 k,go_sem]) ⟨ac0,none,0,0,_,rfl,HV.o,deb.fresh_nil _ _,j.o⟩
   ·rw[decide_eq_false R] at G;have HV:Hid (OweIs x q ac0 2):=.inr (.inl ⟨V.o,λhh=>R hh.2,rfl,rfl⟩);clear R;have T:=zy0 g;have a8:=zy1 g;go_wp2_with fail;refine(B.o _).mono ?_;rintro e I ⟨rfl,l⟩;obtain rfl:F=I:=l.symm;go_wp2_with fail;refine(G.o _).mono ?_;rintro e I ⟨rfl,l⟩;obtain rfl:F=I:=l.symm;go_wp2_with (first|refine zs ?_|refine zw ?_)
    intro U f;obtain⟨z,A⟩:=zk2 f m g;have j:=zk f s;have k:=zyb f;have r:=f.size;clear f;go_wp2_with fail;exact zr (.tuple #[.agg #[zI 0,zI 0,zI 0,zI 0,zI 0,zI 0,zS],zI 2]) (by simp[results,Tryz.results133,scl7 k,go_sem]) ⟨ac0,none,0,0,_,rfl,HV.o,deb.fresh_nil _ _,j.o⟩
  ·rw[decide_eq_false Q] at B;have HV:Hid (OweIs x q ac0 2):=.inr (.inl ⟨V.o,λhh=>Q hh.1,rfl,rfl⟩);clear Q;have T:=zy0 g;go_wp2_with fail;refine(B.o _).mono ?_;rintro e I ⟨rfl,l⟩;obtain rfl:F=I:=l.symm;go_wp2_with refine zs ?_;intro U f;obtain⟨z,A⟩:=zk2 f m g;have j:=zk f s;have k:=zyb f;have r:=f.size;clear f;go_wp2_with fail;exact zr (.tuple #[.agg #[zI 0,zI 0,zI 0,zI 0,zI 0,zI 0,zS],zI 2]) (by simp[results,Tryz.results133,scl7 k,go_sem]) ⟨ac0,none,0,0,_,rfl,HV.o,deb.fresh_nil _ _,j.o⟩
 ·have V:=zh S;obtain⟨P,O,J,K,L,u,aA⟩:=sh3 w #[zI x.me,zI x.rv,zI x.nx,zI x.mo,zI x.bo,zI x.fr,.slice p len cap] 55 #[zI q.a,zI q.b] 42 #[zI 0,zI 0,zI 0,zI 0,zI 0,zI 0,zS] 55;have y:=zh (h.below u.o);go_enter Tryz.func133,Tryz.ntmps133;go_upto_region 1 with fail
  rw[O.o];have N:Hid (zC 44 #[.agg #[zI x.me,zI x.rv,zI x.nx,zI x.mo,zI x.bo,zI x.fr,.slice p len cap]] P λe w'=>e=.returned (.bool false)∧zB P w'):=ranot x p len cap _ y.o hl S;go_wp2_with refine zw ?_;refine N.o.mono ?_;rintro e F ⟨rfl,i⟩;obtain⟨m,g,X⟩:=zn3 i J K L;have M:=zh (y.o.below i);have s:=shB u i;have a6:=i.size;clear i;go_wp2_with (first|refine zs ?_|refine zw ?_)
  intro U f;obtain⟨z,A⟩:=zk2 f m g;have j:=zk f s;have k:=zyb f;have r:=f.size;clear f;go_wp2_with fail;exact zr (.tuple #[.agg #[zI 0,zI 0,zI 0,zI 0,zI 0,zI 0,zS],zI 5]) (by simp[results,Tryz.results133,scl7 k,go_sem]) ⟨ac0,none,0,0,_,rfl,.inl ⟨V.o,rfl,rfl⟩,deb.fresh_nil _ _,j.o⟩
end acc
namespace cell
open Go.RowKit
theorem words_any(a:Option Addr)(len cap:Nat)(zs:List Int)(w:World)(hr:RowU w a len zs)(hn:a=none→cap=0)(hl:len*4≤140737488351232):
  Calls Tryz.prog 6 #[.slice a len cap] w λe w'=>GaveU w zs e w':=by
 obtain⟨C,A,i,l,m⟩:=info_parts info_u32;obtain⟨g,hr⟩:=hr;cases a with
 |none=>
  have f:=hn rfl;have y:len=0:=by rcases hr with h|⟨b,n,h,_⟩;exact h;cases h
  subst f y;obtain rfl:zs=[]:=List.eq_nil_of_length_eq_zero g;have p:∀w:World,(Builtin.append_ #[25,25] 25 #[zS,zS]).run Tryz.prog w=.ok (zS) w:=λw=>by kernel_rfl
  go_enter Tryz.func6,Tryz.ntmps6;go_wp2;go_ret;exact GaveU.mk (Ws.zero _ _) zb
 |some x=>
  go_enter Tryz.func6,Tryz.ntmps6
  go_wp2_with (first
   |(at_builtin;refine wpList_append_own _ rfl _ _ 25 rfl w.heap.size 83 C (.int .u32 0) 1 4 Tryz.underlying25 A i l m rfl (by decide) _ _ _ rfl (World.ownsRow_nil _ _ _ _) x len cap (zs.map (.int .u32)) rfl ?c0 ?c1 ?c2 ?c3 ?c4 ?c5 ?_)
   | go_in)
  case c0=>simp[g]
  case c5=>exact zc
  case c1=>
   intro j u d;rcases hr with h|⟨b,n,h,f⟩
   ·rw[List.getElem?_eq_none (by simp;omega)] at d;cases d
   ·obtain rfl:=Option.some.inj h;by_cases r:j<zs.length
    ·simp[List.getElem?_eq_getElem r] at d;subst d;have:=f j (by omega);simpa [Addr.add_lit,List.getD,List.getElem?_eq_getElem r] using this
    ·rw[List.getElem?_eq_none (by simp;omega)] at d;cases d
  case c2=>intro u d;obtain⟨z,_,rfl⟩:=List.mem_map.1 d;rfl
  case c3=>unfold maxLen;omega
  case c4=>omega
  intro D w' c q _;have t:Hid (Ws w' w.heap.size D zs):=by show w'.ownsRow _ _ _ _ _ _;rw[g];simpa using c
  have s:Hid (zB w w'):=zb.grown q zc (λk B=>by simp[Value.ownBlock] at B);clear c q;go_wp2;go_ret;exact GaveU.mk t.o s.o
end cell
namespace acc
open tar (Du du0 Came RowD Ld PairT)
open Go.RowKit
def NumPost(w:World)(g:Nat)(x:Ac)(b:Bi)(p:Option Addr)(len cap:Nat)(e:Ending)(w':World):Prop:=
 Chg w w' g∧((¬ x.nx≤1048575∧e=.returned (zI 20)∧Blk w' g (wcs x b p len cap) 132)∨(x.nx≤1048575∧e=.returned (zI 0)∧Blk w' g (wcs { x with nx:=x.nx+1 } { b with id:=x.nx } p len cap) 132))
theorem pnum(g:Nat)(x:Ac)(b:Bi)(p:Option Addr)(len cap:Nat)(w:World)(hw:Blk w g (wcs x b p len cap) 132)(hn:1≤x.nx∧x.nx≤1048576):Calls Tryz.prog 70 #[.pointer (some ⟨g,0,none⟩)] w λe w'=>NumPost w g x b p len cap e w':=by
 obtain⟨A,D,a,B,q,y,K⟩:=x;obtain⟨z,E,t,u,C,r,F⟩:=b;simp only[] at hn;have j:Hid (Blk w g #[zI A,zI D,zI a,zI B,zI q,zI y,.slice p len cap,zI z,zI E,zI t,zI u,zI C,zI r,zI F] 132):=hw;have I:=zy2 j;clear hw;by_cases m:a≤1048575
 ·have s:decide (1048575<a)=false:=decide_eq_false (by omega);have H:IntKind.i64.wrap (a+1)=a+1:=by rw[IntKind.wrap_i64];omega
  have f:Hid (a≤1048575):=m;go_enter Tryz.func70,Tryz.ntmps70;go_wp2_with (first|(refine wp_let1 rfl 3 _ _ rfl g 7 rfl .i64 a rfl (by kernel_rfl) #[zI A,zI D,zI a,zI B,zI q,zI y,.slice p len cap,zI z,zI E,zI t,zI u,zI C,zI r,zI F] 132 j.o (by simp) ?_)|fail)
  intro G c;have k:=zyb c;have h:Hid (Chg w G g):=.upd c;have n:=zy2 k;clear c I s;go_wp2_with refine zl ?_;intro J d;have l:=zyb d;have i:=zh (h.o.trans (.upd d));clear d n;go_wp2_with fail;go_ret;exact⟨i.o,.inr ⟨f.o,rfl,l.o⟩⟩
 ·have s:decide (1048575<a)=true:=decide_eq_true (by omega);have f:=zh m;clear m hn;go_enter Tryz.func70,Tryz.ntmps70;go_wp2_with fail;go_ret;exact⟨Chg.refl _ _,.inl ⟨Int.not_le.2 f.o,rfl,j.o⟩⟩
end acc
namespace words
open Go.RowKit
theorem downward_any(K:Nat)(caps:Array Value)(B:Nat)(v0 v1 v2 v3:Value)(x0 x1 x2 y0 y1 y2:Int)(w:World)(h:Acc w w B v0)(hK:∀args w,(callFunc K args).run Tryz.prog w=.ok (.enter K args) w)
  (s0:∀w',Acc w w' B v0→zC K (#[.int .u32 x2]++caps) w' λe w''=>e=.returned (.int .u32 y2)∧Acc w' w'' B v1)
  (s1:∀w',Acc w w' B v1→zC K (#[.int .u32 x1]++caps) w' λe w''=>e=.returned (.int .u32 y1)∧Acc w' w'' B v2)
  (s2:∀w',Acc w w' B v2→zC K (#[.int .u32 x0]++caps) w' λe w''=>e=.returned (.int .u32 y0)∧Acc w' w'' B v3):
  Calls Tryz.prog 168 #[.agg #[.int .u32 x0,.int .u32 x1,.int .u32 x2],.func (.func K) #[] caps] w λe w'=>e=.returned (.agg #[.int .u32 y0,.int .u32 y1,.int .u32 y2])∧Acc w w' B v3:=by
 have u:Hid (∀w',Acc w w' B v0→zC K (#[.int .u32 x2]++caps) w' λe w''=>e=.returned (.int .u32 y2)∧Acc w' w'' B v1):=s0;have x:Hid (∀w',Acc w w' B v1→zC K (#[.int .u32 x1]++caps) w' λe w''=>e=.returned (.int .u32 y1)∧Acc w' w'' B v2):=s1;have y:Hid (∀w',Acc w w' B v2→zC K (#[.int .u32 x0]++caps) w' λe w''=>e=.returned (.int .u32 y0)∧Acc w' w'' B v3):=s2;have q:Hid (Acc w w B v0):=h;clear s0 s1 s2 h;go_enter Tryz.func168,Tryz.ntmps168;go_wp2_with fail;refine wp_loop_rounds 4 ?_;rw[rounds_succ];go_wp2_with fail;refine(u.o _ ((q.o.alloc _).alloc _)).mono ?_;rintro e i ⟨rfl,m⟩;have X:=q.o.old;have j:Trio i w.heap.size (.int .u32 x0) (.int .u32 x1) (.int .u32 x2):=(trio_a _ _ _ _ _).acc m (by omega);have G:Trio i (w.heap.size+1) (.int .u32 0) (.int .u32 0) (.int .u32 0):=(trio_b _ _ _ _ _).acc m (by omega);have D:=((q.o.alloc _).alloc _).trans m;have c2:=j.c2;have P:=j.free 2;have c:=j.set2 (.int .u32 y2);have M:=c.c1;have z:Hid (Trio (i.setCell ⟨w.heap.size,2,none⟩ (.int .u32 y2)) w.heap.size (.int .u32 x0) (.int .u32 x1) (.int .u32 y2)):=c;have s:Hid (Trio (i.setCell ⟨w.heap.size,2,none⟩ (.int .u32 y2)) (w.heap.size+1) (.int .u32 0) (.int .u32 0) (.int .u32 0)):=G.other _ _ (by omega);have f:Hid (Acc w (i.setCell ⟨w.heap.size,2,none⟩ (.int .u32 y2)) B v1):=D.setNew _ _ _ zc;clear m j G D c;go_wp2_with fail;rw[rounds_succ];go_wp2_with fail;refine(x.o _ f.o).mono ?_;rintro e C ⟨rfl,n⟩;have k:=z.o.acc n (by omega);have H:=s.o.acc n (by omega);have E:=f.o.trans n;clear c2 P M n;have c1:=k.c1;have O:=k.free 1;have d:=k.set1 (.int .u32 y1);have N:=d.c0;have z:Hid (Trio (C.setCell ⟨w.heap.size,1,none⟩ (.int .u32 y1)) w.heap.size (.int .u32 x0) (.int .u32 y1) (.int .u32 y2)):=d;have s:Hid (Trio (C.setCell ⟨w.heap.size,1,none⟩ (.int .u32 y1)) (w.heap.size+1) (.int .u32 0) (.int .u32 0) (.int .u32 0)):=H.other _ _ (by omega)
 have g:Hid (Acc w (C.setCell ⟨w.heap.size,1,none⟩ (.int .u32 y1)) B v2):=E.setNew _ _ _ zc;clear k H E d;go_wp2_with fail;rw[rounds_succ];go_wp2_with fail;refine(y.o _ g.o).mono ?_;rintro e J ⟨rfl,p⟩;have l:=z.o.acc p (by omega);have I:=s.o.acc p (by omega);have F:=g.o.trans p;clear c1 O N p;have c0:=l.c0;have T:=l.free 0;have b:=l.set0 (.int .u32 y0);have a:=I.other (G':=w.heap.size) 0 (.int .u32 y0) (by omega);have Q:=b.c0;have R:=b.c1;have S:=b.c2;have Y:=a.c0;have Z:=a.c1;have r2:=a.c2;have U:=a.free 0;have V:=a.free 1;have W:=a.free 2;have t:Hid (Trio (J.setCell ⟨w.heap.size,0,none⟩ (.int .u32 y0)) (w.heap.size+1) (.int .u32 0) (.int .u32 0) (.int .u32 0)):=a;have r:Hid (Acc w (J.setCell ⟨w.heap.size,0,none⟩ (.int .u32 y0)) B v3):=F.setNew _ _ _ zc;clear l I F b a;go_wp2_with fail;rw[rounds_succ];go_wp2_with fail;have A:=((t.o.set0 (.int .u32 y0)).set1 (.int .u32 y1)).set2 (.int .u32 y2);have L:=((r.o.setNew (w.heap.size+1) 0 (.int .u32 y0) (by omega)).setNew (w.heap.size+1) 1 (.int .u32 y1) (by omega)).setNew (w.heap.size+1) 2 (.int .u32 y2) (by omega);refine bodyPost_ret (v:=.agg #[.int .u32 y0,.int .u32 y1,.int .u32 y2]) (by simp[results,Tryz.results168,A.c0,A.c1,A.c2,go_sem]) rfl ⟨rfl,L⟩
theorem add_ge(a b:Option Addr)(n k ca cb:Nat)(la lb:List Nat)(w:World)(ha:Ru w a n ca la)(hbb:Ru w b k cb lb)(hkn:k≤n)(hn:n≤100):
  Calls Tryz.prog 177 #[.slice a n ca,.slice b k cb] w λe w'=>Gives w (nv la+nv lb) e w':=by
 obtain⟨i0,hi,Q,R,T⟩:=info_parts info_u32;have U:Hid (Ru w a n ca la):=ha;have r:Hid (Ru w b k cb lb):=hbb;have a6:¬ (n:Int)<(k:Int):=by omega
 clear ha hbb;go_enter Tryz.func177,Tryz.ntmps177
 go_wp2_with (first
  | (at_make;refine wpList_make_full _ rfl _ _ 25 rfl w.heap.size 83 i0 (.int .u32 0) 1 Tryz.underlying25 hi Q R _ _ _ _ (n+1) rfl rfl ?c0 ?c1 ?c2 ?c3 ?c4 ?_))
 try (case c0=>first|rfl|(congr 1;omega))
 try (case c1=>first|rfl|(congr 1;omega))
 case c2=>first|omega|(rw[T];omega)
 case c3=>unfold maxLen;omega
 try (case c4=>simp)
 intro w1 t M;have X:Hid (RowU w1 w.heap.size (n+1) (λ_=>0)):=rowU_made t;have V:Hid (zB w w1):=zb.grown M zc (λk hk=>by cases hk);clear t M hi Q R T;go_wp2_with fail;go_loopw [6,7] (λcv iv wr=>∃(i c:Nat)(f:Nat→Nat),i≤n∧iv=zI i∧cv=.int .u64 c∧c≤2∧RowU wr w.heap.size (n+1) f∧(∀j,j<n+1→f j<4294967296)∧zB w wr∧nf f i+4294967296^i*c=nf (λj=>la.getD j 0) i+nf (λj=>lb.getD j 0) i) (λ_ iv _=>n-(intOf iv).toNat)
 case atStart=>exact⟨0,0,λ_=>0,Nat.zero_le _,rfl,rfl,by omega,X.o,λ_ _=>(by decide:0<4294967296),V.o,rfl⟩
 case round=>
  obtain⟨i,c,f,a5,rfl,rfl,a4,d,p,D,m⟩:=hrel;by_cases N:i<n
  ·obtain⟨ba,oa,rfl,L⟩:=(U.o.below D).at N;have r0:=d.cell (i:=i) (by omega);have f0:=d.free i;obtain⟨fi,hfi⟩:∃fi:Int,((f i:Nat):Int)=fi:=⟨_,rfl⟩
   rw[hfi] at r0;clear hfi;by_cases a1:i<k
   ·have hx:=U.o.word i;obtain⟨bb,ob,rfl,a0⟩:=(r.o.below D).at a1;have hy:=r.o.word i;have g:=add_step (S:=nf f i) (A:=nf (λj=>la.getD j 0) i) (B:=nf (λj=>lb.getD j 0) i) (P:=4294967296^i) (c:=c) (x:=la.getD i 0) (y:=lb.getD i 0) m;obtain⟨x,hxx⟩:∃x,la.getD i 0=x:=⟨_,rfl⟩
    have Y:Hid (la.getD i 0=x):=hxx;rw[hxx] at hx g L;clear hxx;obtain⟨y,hyy⟩:∃y,lb.getD i 0=y:=⟨_,rfl⟩
    have Z:Hid (lb.getD i 0=y):=hyy;rw[hyy] at hy g a0;clear hyy;have e0:(c:Int)+(x:Int)+(y:Int)=((c+x+y:Nat):Int):=by omega
    have H:Hid (c+x+y<8589934600):=(by omega:c+x+y<8589934600)
    generalize hq:c+x+y=q at *;have a2:(q:Int)<8589934600:=by have:=H.o;omega
    have e1:((q:Nat):Int)%4294967296=((q%4294967296:Nat):Int):=by omega
    have e2:((q:Nat):Int)/4294967296=((q/4294967296:Nat):Int):=by omega
    have G:Hid (RowU (wr.setCell ⟨w.heap.size,i,none⟩ (.int .u32 ((q%4294967296:Nat):Int))) w.heap.size (n+1) (updU f i (q%4294967296))):=d.set _ _;have l:Hid (zB w (wr.setCell ⟨w.heap.size,i,none⟩ (.int .u32 ((q%4294967296:Nat):Int)))):=below_set D _ _ _ zc
    have F:Hid (∀j,j<n+1→updU f i (q%4294967296) j<4294967296):=λj s=>by
     unfold updU;split
     ·omega
     ·exact p j s
    have W:Hid (q/4294967296≤2):=by
     have:=H.o;exact(by omega:q/4294967296≤2)
    have E:Hid (nf (updU f i (q%4294967296)) (i+1)+4294967296^(i+1)*(q/4294967296)=nf (λj=>la.getD j 0) (i+1)+nf (λj=>lb.getD j 0) (i+1)):=by
     have I:nf (updU f i (q%4294967296)) i=nf f i:=nf_congr λj s=>by unfold updU;rw[if_neg (by omega)]
     have J:updU f i (q%4294967296) i=q%4294967296:=by unfold updU;rw[if_pos rfl]
     have h:nf (updU f i (q%4294967296)) (i+1)+4294967296^(i+1)*(q/4294967296)=nf (λj=>la.getD j 0) (i+1)+nf (λj=>lb.getD j 0) (i+1):=by
      rw[nf,nf,nf,I,J,Nat.pow_succ];have hX:la.getD i 0=x:=Y.o;have hY:lb.getD i 0=y:=Z.o;rw[hX,hY];exact g
     exact h
    clear g m p;generalize q%4294967296=u at *;generalize z:q/4294967296=c2 at *;clear z;go_wp2_with fail;go_roundw
    case rel=>exact⟨i+1,c2,_,by omega,by go_num,rfl,W.o,G.o,F.o,l.o,E.o⟩
    case measure=>simp[intOf];omega
   ·have hx:=U.o.word i;have O:lb.getD i 0=0:=by simp[List.getD,List.getElem?_eq_none (show lb.length≤i by rw[r.o.len];omega)]
    have g:=add_step (S:=nf f i) (A:=nf (λj=>la.getD j 0) i) (B:=nf (λj=>lb.getD j 0) i) (P:=4294967296^i) (c:=c) (x:=la.getD i 0) (y:=0) m;rw[Nat.add_zero] at g;obtain⟨x,hxx⟩:∃x,la.getD i 0=x:=⟨_,rfl⟩
    have Y:Hid (la.getD i 0=x):=hxx;have Z:Hid (lb.getD i 0=0):=O;rw[hxx] at hx g L;clear hxx O;have e0:(c:Int)+(x:Int)=((c+x:Nat):Int):=by omega
    have H:Hid (c+x<8589934600):=(by omega:c+x<8589934600)
    generalize hq:c+x=q at *;have a2:(q:Int)<8589934600:=by have:=H.o;omega
    have e1:((q:Nat):Int)%4294967296=((q%4294967296:Nat):Int):=by omega
    have e2:((q:Nat):Int)/4294967296=((q/4294967296:Nat):Int):=by omega
    have G:Hid (RowU (wr.setCell ⟨w.heap.size,i,none⟩ (.int .u32 ((q%4294967296:Nat):Int))) w.heap.size (n+1) (updU f i (q%4294967296))):=d.set _ _;have l:Hid (zB w (wr.setCell ⟨w.heap.size,i,none⟩ (.int .u32 ((q%4294967296:Nat):Int)))):=below_set D _ _ _ zc
    have F:Hid (∀j,j<n+1→updU f i (q%4294967296) j<4294967296):=λj s=>by
     unfold updU;split
     ·omega
     ·exact p j s
    have W:Hid (q/4294967296≤2):=by
     have:=H.o;exact(by omega:q/4294967296≤2)
    have E:Hid (nf (updU f i (q%4294967296)) (i+1)+4294967296^(i+1)*(q/4294967296)=nf (λj=>la.getD j 0) (i+1)+nf (λj=>lb.getD j 0) (i+1)):=by
     have I:nf (updU f i (q%4294967296)) i=nf f i:=nf_congr λj s=>by unfold updU;rw[if_neg (by omega)]
     have J:updU f i (q%4294967296) i=q%4294967296:=by unfold updU;rw[if_pos rfl]
     have h:nf (updU f i (q%4294967296)) (i+1)+4294967296^(i+1)*(q/4294967296)=nf (λj=>la.getD j 0) (i+1)+nf (λj=>lb.getD j 0) (i+1):=by
      rw[nf,nf,nf,I,J,Nat.pow_succ];have hX:la.getD i 0=x:=Y.o;have hY:lb.getD i 0=0:=Z.o;rw[hX,hY];exact g
     exact h
    clear g m p;generalize q%4294967296=u at *;generalize z:q/4294967296=c2 at *;clear z;go_wp2_with fail;go_roundw
    case rel=>exact⟨i+1,c2,_,by omega,by go_num,rfl,W.o,G.o,F.o,l.o,E.o⟩
    case measure=>simp[intOf];omega
  ·obtain rfl:i=n:=by omega
   have a7:c<4294967296:=by omega
   have r0:=d.cell (i:=i) (by omega);have f0:=d.free i;obtain⟨fi,hfi⟩:∃fi:Int,((f i:Nat):Int)=fi:=⟨_,rfl⟩
   rw[hfi] at r0;clear hfi;have e1:((c:Nat):Int)%4294967296=((c:Nat):Int):=by omega
   have G:Hid (RowU (wr.setCell ⟨w.heap.size,i,none⟩ (.int .u32 ((c:Nat):Int))) w.heap.size (i+1) (updU f i c)):=d.set _ _;have l:Hid (zB w (wr.setCell ⟨w.heap.size,i,none⟩ (.int .u32 ((c:Nat):Int)))):=below_set D _ _ _ zc
   have F:Hid (∀j,j<i+1→updU f i c j<4294967296):=λj s=>by
    unfold updU;split
    ·omega
    ·exact p j s
   have E:Hid (nv ((List.range (i+1)).map (updU f i c))=nv la+nv lb):=by
    have I:nf (updU f i c) i=nf f i:=nf_congr λj s=>by unfold updU;rw[if_neg (by omega)]
    have J:updU f i c i=c:=by unfold updU;rw[if_pos rfl]
    have h:nv ((List.range (i+1)).map (updU f i c))=nv la+nv lb:=by
     rw[nv_range,nf,I,J,m,← nv_more la (by rw[U.o.len];exact zc),← nv_more lb (by rw[r.o.len];omega)]
    exact h
   clear d p D m N;go_wp2_with fail;refine(trim_any _ _ _ _ _ (G.o.ru F.o) (by omega)).mono ?_;rintro e w3 ⟨a3,n3,c3,rfl,C,K⟩;rw[E.o] at C;have HG:Hid (Gives w (nv la+nv lb) (.returned (.slice a3 n3 c3)) w3):=Gives.mk C (l.o.trans (K.mono l.o.size));clear C K;go_wp2_with fail;go_ret;exact HG.o
theorem add_lt(a b:Option Addr)(n k ca cb:Nat)(la lb:List Nat)(w:World)(ha:Ru w a n ca la)(hbb:Ru w b k cb lb)(hkn:k<n)(hn:n≤100):
  Calls Tryz.prog 177 #[.slice b k cb,.slice a n ca] w λe w'=>Gives w (nv la+nv lb) e w':=by
 obtain⟨i0,hi,Q,R,T⟩:=info_parts info_u32;have U:Hid (Ru w a n ca la):=ha;have r:Hid (Ru w b k cb lb):=hbb;have a6:(k:Int)<(n:Int):=by omega
 clear ha hbb;go_enter Tryz.func177,Tryz.ntmps177
 go_wp2_with (first
  | (at_make;refine wpList_make_full _ rfl _ _ 25 rfl w.heap.size 83 i0 (.int .u32 0) 1 Tryz.underlying25 hi Q R _ _ _ _ (n+1) rfl rfl ?c0 ?c1 ?c2 ?c3 ?c4 ?_))
 try (case c0=>first|rfl|(congr 1;omega))
 try (case c1=>first|rfl|(congr 1;omega))
 case c2=>first|omega|(rw[T];omega)
 case c3=>unfold maxLen;omega
 try (case c4=>simp)
 intro w1 t M;have X:Hid (RowU w1 w.heap.size (n+1) (λ_=>0)):=rowU_made t;have V:Hid (zB w w1):=zb.grown M zc (λk hk=>by cases hk);clear t M hi Q R T;go_wp2_with fail;go_loopw [6,7] (λcv iv wr=>∃(i c:Nat)(f:Nat→Nat),i≤n∧iv=zI i∧cv=.int .u64 c∧c≤2∧RowU wr w.heap.size (n+1) f∧(∀j,j<n+1→f j<4294967296)∧zB w wr∧nf f i+4294967296^i*c=nf (λj=>la.getD j 0) i+nf (λj=>lb.getD j 0) i) (λ_ iv _=>n-(intOf iv).toNat)
 case atStart=>exact⟨0,0,λ_=>0,Nat.zero_le _,rfl,rfl,by omega,X.o,λ_ _=>(by decide:0<4294967296),V.o,rfl⟩
 case round=>
  obtain⟨i,c,f,a5,rfl,rfl,a4,d,p,D,m⟩:=hrel;by_cases N:i<n
  ·obtain⟨ba,oa,rfl,L⟩:=(U.o.below D).at N;have r0:=d.cell (i:=i) (by omega);have f0:=d.free i;obtain⟨fi,hfi⟩:∃fi:Int,((f i:Nat):Int)=fi:=⟨_,rfl⟩
   rw[hfi] at r0;clear hfi;by_cases a1:i<k
   ·have hx:=U.o.word i;obtain⟨bb,ob,rfl,a0⟩:=(r.o.below D).at a1;have hy:=r.o.word i;have g:=add_step (S:=nf f i) (A:=nf (λj=>la.getD j 0) i) (B:=nf (λj=>lb.getD j 0) i) (P:=4294967296^i) (c:=c) (x:=la.getD i 0) (y:=lb.getD i 0) m;obtain⟨x,hxx⟩:∃x,la.getD i 0=x:=⟨_,rfl⟩
    have Y:Hid (la.getD i 0=x):=hxx;rw[hxx] at hx g L;clear hxx;obtain⟨y,hyy⟩:∃y,lb.getD i 0=y:=⟨_,rfl⟩
    have Z:Hid (lb.getD i 0=y):=hyy;rw[hyy] at hy g a0;clear hyy;have e0:(c:Int)+(x:Int)+(y:Int)=((c+x+y:Nat):Int):=by omega
    have H:Hid (c+x+y<8589934600):=(by omega:c+x+y<8589934600)
    generalize hq:c+x+y=q at *;have a2:(q:Int)<8589934600:=by have:=H.o;omega
    have e1:((q:Nat):Int)%4294967296=((q%4294967296:Nat):Int):=by omega
    have e2:((q:Nat):Int)/4294967296=((q/4294967296:Nat):Int):=by omega
    have G:Hid (RowU (wr.setCell ⟨w.heap.size,i,none⟩ (.int .u32 ((q%4294967296:Nat):Int))) w.heap.size (n+1) (updU f i (q%4294967296))):=d.set _ _;have l:Hid (zB w (wr.setCell ⟨w.heap.size,i,none⟩ (.int .u32 ((q%4294967296:Nat):Int)))):=below_set D _ _ _ zc
    have F:Hid (∀j,j<n+1→updU f i (q%4294967296) j<4294967296):=λj s=>by
     unfold updU;split
     ·omega
     ·exact p j s
    have W:Hid (q/4294967296≤2):=by
     have:=H.o;exact(by omega:q/4294967296≤2)
    have E:Hid (nf (updU f i (q%4294967296)) (i+1)+4294967296^(i+1)*(q/4294967296)=nf (λj=>la.getD j 0) (i+1)+nf (λj=>lb.getD j 0) (i+1)):=by
     have I:nf (updU f i (q%4294967296)) i=nf f i:=nf_congr λj s=>by unfold updU;rw[if_neg (by omega)]
     have J:updU f i (q%4294967296) i=q%4294967296:=by unfold updU;rw[if_pos rfl]
     have h:nf (updU f i (q%4294967296)) (i+1)+4294967296^(i+1)*(q/4294967296)=nf (λj=>la.getD j 0) (i+1)+nf (λj=>lb.getD j 0) (i+1):=by
      rw[nf,nf,nf,I,J,Nat.pow_succ];have hX:la.getD i 0=x:=Y.o;have hY:lb.getD i 0=y:=Z.o;rw[hX,hY];exact g
     exact h
    clear g m p;generalize q%4294967296=u at *;generalize z:q/4294967296=c2 at *;clear z;go_wp2_with fail;go_roundw
    case rel=>exact⟨i+1,c2,_,by omega,by go_num,rfl,W.o,G.o,F.o,l.o,E.o⟩
    case measure=>simp[intOf];omega
   ·have hx:=U.o.word i;have O:lb.getD i 0=0:=by simp[List.getD,List.getElem?_eq_none (show lb.length≤i by rw[r.o.len];omega)]
    have g:=add_step (S:=nf f i) (A:=nf (λj=>la.getD j 0) i) (B:=nf (λj=>lb.getD j 0) i) (P:=4294967296^i) (c:=c) (x:=la.getD i 0) (y:=0) m;rw[Nat.add_zero] at g;obtain⟨x,hxx⟩:∃x,la.getD i 0=x:=⟨_,rfl⟩
    have Y:Hid (la.getD i 0=x):=hxx;have Z:Hid (lb.getD i 0=0):=O;rw[hxx] at hx g L;clear hxx O;have e0:(c:Int)+(x:Int)=((c+x:Nat):Int):=by omega
    have H:Hid (c+x<8589934600):=(by omega:c+x<8589934600)
    generalize hq:c+x=q at *;have a2:(q:Int)<8589934600:=by have:=H.o;omega
    have e1:((q:Nat):Int)%4294967296=((q%4294967296:Nat):Int):=by omega
    have e2:((q:Nat):Int)/4294967296=((q/4294967296:Nat):Int):=by omega
    have G:Hid (RowU (wr.setCell ⟨w.heap.size,i,none⟩ (.int .u32 ((q%4294967296:Nat):Int))) w.heap.size (n+1) (updU f i (q%4294967296))):=d.set _ _;have l:Hid (zB w (wr.setCell ⟨w.heap.size,i,none⟩ (.int .u32 ((q%4294967296:Nat):Int)))):=below_set D _ _ _ zc
    have F:Hid (∀j,j<n+1→updU f i (q%4294967296) j<4294967296):=λj s=>by
     unfold updU;split
     ·omega
     ·exact p j s
    have W:Hid (q/4294967296≤2):=by
     have:=H.o;exact(by omega:q/4294967296≤2)
    have E:Hid (nf (updU f i (q%4294967296)) (i+1)+4294967296^(i+1)*(q/4294967296)=nf (λj=>la.getD j 0) (i+1)+nf (λj=>lb.getD j 0) (i+1)):=by
     have I:nf (updU f i (q%4294967296)) i=nf f i:=nf_congr λj s=>by unfold updU;rw[if_neg (by omega)]
     have J:updU f i (q%4294967296) i=q%4294967296:=by unfold updU;rw[if_pos rfl]
     have h:nf (updU f i (q%4294967296)) (i+1)+4294967296^(i+1)*(q/4294967296)=nf (λj=>la.getD j 0) (i+1)+nf (λj=>lb.getD j 0) (i+1):=by
      rw[nf,nf,nf,I,J,Nat.pow_succ];have hX:la.getD i 0=x:=Y.o;have hY:lb.getD i 0=0:=Z.o;rw[hX,hY];exact g
     exact h
    clear g m p;generalize q%4294967296=u at *;generalize z:q/4294967296=c2 at *;clear z;go_wp2_with fail;go_roundw
    case rel=>exact⟨i+1,c2,_,by omega,by go_num,rfl,W.o,G.o,F.o,l.o,E.o⟩
    case measure=>simp[intOf];omega
  ·obtain rfl:i=n:=by omega
   have a7:c<4294967296:=by omega
   have r0:=d.cell (i:=i) (by omega);have f0:=d.free i;obtain⟨fi,hfi⟩:∃fi:Int,((f i:Nat):Int)=fi:=⟨_,rfl⟩
   rw[hfi] at r0;clear hfi;have e1:((c:Nat):Int)%4294967296=((c:Nat):Int):=by omega
   have G:Hid (RowU (wr.setCell ⟨w.heap.size,i,none⟩ (.int .u32 ((c:Nat):Int))) w.heap.size (i+1) (updU f i c)):=d.set _ _;have l:Hid (zB w (wr.setCell ⟨w.heap.size,i,none⟩ (.int .u32 ((c:Nat):Int)))):=below_set D _ _ _ zc
   have F:Hid (∀j,j<i+1→updU f i c j<4294967296):=λj s=>by
    unfold updU;split
    ·omega
    ·exact p j s
   have E:Hid (nv ((List.range (i+1)).map (updU f i c))=nv la+nv lb):=by
    have I:nf (updU f i c) i=nf f i:=nf_congr λj s=>by unfold updU;rw[if_neg (by omega)]
    have J:updU f i c i=c:=by unfold updU;rw[if_pos rfl]
    have h:nv ((List.range (i+1)).map (updU f i c))=nv la+nv lb:=by
     rw[nv_range,nf,I,J,m,← nv_more la (by rw[U.o.len];exact zc),← nv_more lb (by rw[r.o.len];omega)]
    exact h
   clear d p D m N;go_wp2_with fail;refine(trim_any _ _ _ _ _ (G.o.ru F.o) (by omega)).mono ?_;rintro e w3 ⟨a3,n3,c3,rfl,C,K⟩;rw[E.o] at C;have HG:Hid (Gives w (nv la+nv lb) (.returned (.slice a3 n3 c3)) w3):=Gives.mk C (l.o.trans (K.mono l.o.size));clear C K;go_wp2_with fail;go_ret;exact HG.o
theorem add_any(a b:Option Addr)(n k ca cb:Nat)(la lb:List Nat)(w:World)(ha:Ru w a n ca la)(hb:Ru w b k cb lb)(hn:n≤100)(hk:k≤100):
  Calls Tryz.prog 177 #[.slice a n ca,.slice b k cb] w λe w'=>Gives w (nv la+nv lb) e w':=by
 by_cases h:k≤n
 ·exact add_ge a b n k ca cb la lb w ha hb h hn
 ·rw[Nat.add_comm];exact add_lt b a k n cb ca lb la w hb ha (by omega) hk
end words
end Go.Proofs.YtoepgdhiepedeaaGreatDoor
