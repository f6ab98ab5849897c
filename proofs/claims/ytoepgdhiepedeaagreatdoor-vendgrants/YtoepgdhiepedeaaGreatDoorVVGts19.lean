import Derived.Test.YtoepgdhiepedeaaGreatDoorVVGts11
import Derived.Test.YtoepgdhiepedeaaGreatDoorVVGts14
import Derived.Test.YtoepgdhiepedeaaGreatDoorVVGts16
set_option linter.unusedVariables false
set_option linter.unusedSimpArgs false
set_option maxHeartbeats 4000000
set_option maxRecDepth 100000
namespace Go.Proofs.YtoepgdhiepedeaaGreatDoor
namespace book
open Go.RowKit
theorem eqBi_f0(a0 a1 a2 a3 a4 a5 a6:Int)(w:World):(part 3 #[zI a0,zI a1,zI a2,zI a3,zI a4,zI a5,zI a6] 0).run Tryz.prog w=.ok (zI a0) w:=by kernel_rfl
theorem eqBi_f1(a0 a1 a2 a3 a4 a5 a6:Int)(w:World):(part 3 #[zI a0,zI a1,zI a2,zI a3,zI a4,zI a5,zI a6] 1).run Tryz.prog w=.ok (zI a1) w:=by kernel_rfl
theorem eqBi_f2(a0 a1 a2 a3 a4 a5 a6:Int)(w:World):(part 3 #[zI a0,zI a1,zI a2,zI a3,zI a4,zI a5,zI a6] 2).run Tryz.prog w=.ok (zI a2) w:=by kernel_rfl
theorem eqBi_f3(a0 a1 a2 a3 a4 a5 a6:Int)(w:World):(part 3 #[zI a0,zI a1,zI a2,zI a3,zI a4,zI a5,zI a6] 3).run Tryz.prog w=.ok (zI a3) w:=by kernel_rfl
theorem eqBi_f4(a0 a1 a2 a3 a4 a5 a6:Int)(w:World):(part 3 #[zI a0,zI a1,zI a2,zI a3,zI a4,zI a5,zI a6] 4).run Tryz.prog w=.ok (zI a4) w:=by kernel_rfl
theorem eqBi_f5(a0 a1 a2 a3 a4 a5 a6:Int)(w:World):(part 3 #[zI a0,zI a1,zI a2,zI a3,zI a4,zI a5,zI a6] 5).run Tryz.prog w=.ok (zI a5) w:=by kernel_rfl
theorem eqBi_f6(a0 a1 a2 a3 a4 a5 a6:Int)(w:World):(part 3 #[zI a0,zI a1,zI a2,zI a3,zI a4,zI a5,zI a6] 6).run Tryz.prog w=.ok (zI a6) w:=by kernel_rfl
theorem eqBi(d:Nat)(a0 a1 a2 a3 a4 a5 a6 b0 b1 b2 b3 b4 b5 b6:Int)(w:World):(Op.equalIn (d+2) 33 (.agg #[zI a0,zI a1,zI a2,zI a3,zI a4,zI a5,zI a6]) (.agg #[zI b0,zI b1,zI b2,zI b3,zI b4,zI b5,zI b6])).run Tryz.prog w=.ok (decide (a0=b0∧a1=b1∧a2=b2∧a3=b3∧a4=b4∧a5=b5∧a6=b6)) w:=by
 rw[run_equalIn_agg w (d+1) 33 _ _ (by kernel_rfl) (by kernel_rfl)];simp only[Program.fieldsOf,Tryz.underlying33,Op.eqFields,Sem.run_bind,Sem.run_ite,eqBi_f0,eqBi_f1,eqBi_f2,eqBi_f3,eqBi_f4,eqBi_f5,eqBi_f6,Result.andThen_ok,eqI];by_cases a:a0=b0
 case neg=>simp[a]
 subst a;by_cases b:a1=b1
 case neg=>simp[b]
 subst b;by_cases c:a2=b2
 case neg=>simp[c]
 subst c;by_cases e:a3=b3
 case neg=>simp[e]
 subst e;by_cases f:a4=b4
 case neg=>simp[f]
 subst f;by_cases g:a5=b5
 case neg=>simp[g]
 subst g;by_cases h:a6=b6
 case neg=>simp[h]
 subst h;simp
theorem eqDe_f0(a0 a1:Int)(w:World):(part 3 #[zI a0,zI a1] 0).run Tryz.prog w=.ok (zI a0) w:=by kernel_rfl
theorem eqDe_f1(a0 a1:Int)(w:World):(part 3 #[zI a0,zI a1] 1).run Tryz.prog w=.ok (zI a1) w:=by kernel_rfl
theorem eqDe(d:Nat)(a0 a1 b0 b1:Int)(w:World):(Op.equalIn (d+2) 42 (.agg #[zI a0,zI a1]) (.agg #[zI b0,zI b1])).run Tryz.prog w=.ok (decide (a0=b0∧a1=b1)) w:=by
 rw[run_equalIn_agg w (d+1) 42 _ _ (by kernel_rfl) (by kernel_rfl)];simp only[Program.fieldsOf,Tryz.underlying42,Op.eqFields,Sem.run_bind,Sem.run_ite,eqDe_f0,eqDe_f1,Result.andThen_ok,eqI];by_cases a:a0=b0
 case neg=>simp[a]
 subst a;by_cases b:a1=b1
 case neg=>simp[b]
 subst b;simp
theorem eqEv_f0(a0 a1 a2 a3 a4 a5 a6 a7 a8 a9 a10 a11 a12:Int)(w:World):(part 3 #[zI a0,zI a1,zI a2,zI a3,zI a4,zI a5,zI a6,zI a7,zI a8,zI a9,zI a10,zI a11,zI a12] 0).run Tryz.prog w=.ok (zI a0) w:=by kernel_rfl
theorem eqEv_f1(a0 a1 a2 a3 a4 a5 a6 a7 a8 a9 a10 a11 a12:Int)(w:World):(part 3 #[zI a0,zI a1,zI a2,zI a3,zI a4,zI a5,zI a6,zI a7,zI a8,zI a9,zI a10,zI a11,zI a12] 1).run Tryz.prog w=.ok (zI a1) w:=by kernel_rfl
theorem eqEv_f2(a0 a1 a2 a3 a4 a5 a6 a7 a8 a9 a10 a11 a12:Int)(w:World):(part 3 #[zI a0,zI a1,zI a2,zI a3,zI a4,zI a5,zI a6,zI a7,zI a8,zI a9,zI a10,zI a11,zI a12] 2).run Tryz.prog w=.ok (zI a2) w:=by kernel_rfl
theorem eqEv_f3(a0 a1 a2 a3 a4 a5 a6 a7 a8 a9 a10 a11 a12:Int)(w:World):(part 33 #[zI a0,zI a1,zI a2,zI a3,zI a4,zI a5,zI a6,zI a7,zI a8,zI a9,zI a10,zI a11,zI a12] 3).run Tryz.prog w=.ok (.agg #[zI a3,zI a4,zI a5,zI a6,zI a7,zI a8,zI a9]) w:=by kernel_rfl
theorem eqEv_f10(a0 a1 a2 a3 a4 a5 a6 a7 a8 a9 a10 a11 a12:Int)(w:World):(part 3 #[zI a0,zI a1,zI a2,zI a3,zI a4,zI a5,zI a6,zI a7,zI a8,zI a9,zI a10,zI a11,zI a12] 10).run Tryz.prog w=.ok (zI a10) w:=by kernel_rfl
theorem eqEv_f11(a0 a1 a2 a3 a4 a5 a6 a7 a8 a9 a10 a11 a12:Int)(w:World):(part 42 #[zI a0,zI a1,zI a2,zI a3,zI a4,zI a5,zI a6,zI a7,zI a8,zI a9,zI a10,zI a11,zI a12] 11).run Tryz.prog w=.ok (.agg #[zI a11,zI a12]) w:=by kernel_rfl
theorem eqEv(d:Nat)(a0 a1 a2 a3 a4 a5 a6 a7 a8 a9 a10 a11 a12 b0 b1 b2 b3 b4 b5 b6 b7 b8 b9 b10 b11 b12:Int)(w:World):(Op.equalIn (d+3) 44 (.agg #[zI a0,zI a1,zI a2,zI a3,zI a4,zI a5,zI a6,zI a7,zI a8,zI a9,zI a10,zI a11,zI a12]) (.agg #[zI b0,zI b1,zI b2,zI b3,zI b4,zI b5,zI b6,zI b7,zI b8,zI b9,zI b10,zI b11,zI b12])).run Tryz.prog w=.ok (decide (a0=b0∧a1=b1∧a2=b2∧a3=b3∧a4=b4∧a5=b5∧a6=b6∧a7=b7∧a8=b8∧a9=b9∧a10=b10∧a11=b11∧a12=b12)) w:=by
 rw[run_equalIn_agg w (d+2) 44 _ _ (by kernel_rfl) (by kernel_rfl)];simp only[Program.fieldsOf,Tryz.underlying44,Op.eqFields,Sem.run_bind,Sem.run_ite,eqEv_f0,eqEv_f1,eqEv_f2,eqEv_f3,eqEv_f10,eqEv_f11,Result.andThen_ok,eqI,eqBi,eqDe];by_cases g:a0=b0
 case neg=>simp[g]
 subst g;by_cases i:a1=b1
 case neg=>simp[i]
 subst i;by_cases j:a2=b2
 case neg=>simp[j]
 subst j;by_cases e:a3=b3∧a4=b4∧a5=b5∧a6=b6∧a7=b7∧a8=b8∧a9=b9
 case neg=>
  have f:=decide_eq_false e;have r:¬ (a0=a0∧a1=a1∧a2=a2∧a3=b3∧a4=b4∧a5=b5∧a6=b6∧a7=b7∧a8=b8∧a9=b9∧a10=b10∧a11=b11∧a12=b12):=λh=>e ⟨h.2.2.2.1,h.2.2.2.2.1,h.2.2.2.2.2.1,h.2.2.2.2.2.2.1,h.2.2.2.2.2.2.2.1,h.2.2.2.2.2.2.2.2.1,h.2.2.2.2.2.2.2.2.2.1⟩;simp only[f,decide_eq_false r];simp;intro k l m n o p q;exact absurd ⟨k,l,m,n,o,p,q⟩ e
 obtain⟨rfl,rfl,rfl,rfl,rfl,rfl,rfl⟩:=e;by_cases a:a10=b10
 case neg=>simp[a]
 subst a;by_cases b:a11=b11
 case neg=>simp[b]
 subst b;by_cases c:a12=b12
 case neg=>simp[c]
 subst c;simp
end book
namespace deb
open tar (Du du0 Came RowD Ld ErrPost TwoPost PairT GaveD)
open Go.RowKit
theorem krec:KdRec:=by
 intro w a len ac c t bp l ai ad;have hr:=l.row;have ab:=zh (pshare a len ac c t bp w hr l.most);have I:=zh hr;clear l hr ai ad;go_enter Tryz.func67,Tryz.ntmps67;go_wp2_with fail;refine ab.o.mono ?_;rintro e P ⟨s,f,rfl,hf,Y⟩;have m:=zh Y;clear Y;rcases hf with⟨C,hf,rfl⟩|⟨C,⟨S,N,hg⟩|⟨S,rfl,rfl⟩⟩
 ·have ap:(f != 0)=true:=by simpa using λh=>C (hf.ok.1 h)
  have HN:=zh C;have HF:=zh hf;clear hf C;go_wp2_with fail;go_ret3;exact⟨none,0,0,[],0,f,rfl,.inl ⟨HN.o,HF.o,rfl,rfl⟩,fresh_nil _ _,m.o⟩
 ·subst hg;have HT:=zh S;have ah:=share_bd S;rw[← N] at ah;have T:=zh N;have Q:=zh C;have E:=zh (I.o.below m.o);have g:=zh E.o.1;have ag:len≤8:=by have:=C.1;have:=g.o;omega
  clear S N C;go_wp2_with fail;go_loopw [11,12,29] (λu v x wr=>∃(k:Nat)(V:Value),k≤len∧x=zI (k:Int)∧v=zI (max 0 (s-sumK c k))∧V=u∧Ld 42 wr P.heap.size V (recK c s k)∧zB P wr) (λ_ _ x _=>len-(intOf x).toNat)
  case atStart=>exact⟨0,_,Nat.zero_le _,rfl,by show _=Value.int .i64 (max 0 (s-0));rw[show max 0 (s-0)=s by omega],rfl,tar.Ld.zero _ _ _,zb⟩
  case round=>
   obtain⟨k,V,hk,rfl,rfl,hV,hu,X⟩:=hrel;subst hV;have G:=zh X;have HU:=zh hu;have O:=sumK_bd Q.o k (by rw[g.o];exact hk);by_cases L:k<len
   ·have af:decide ((k:Int)<(len:Int))=true:=by simp;omega
    obtain⟨b,D,rfl,a0,hc⟩:=E.o.at (by omega);have c0:wr.cell? ⟨b,D+k*2,none⟩=some (zI (c.getD k du0).a):=(X.cell (p:=⟨b,D+k*2,none⟩) a0).trans (hc k L).1;have c1:wr.cell? ⟨b,D+k*2+1,none⟩=some (zI (c.getD k du0).b):=(X.cell (p:=⟨b,D+k*2+1,none⟩) a0).trans (hc k L).2;have ho:=Q.o.2 k (by rw[g.o];exact L);have aq:=ho.1.1;have ar:=ho.1.2;have HN:=zh (sumK_next c k).symm;have HY:Hid (0<left (c.getD k du0).a (sumK c k+(c.getD k du0).a) s→recK c s (k+1)=recK c s k++[⟨left (c.getD k du0).a (sumK c k+(c.getD k du0).a) s,(c.getD k du0).b⟩]):=recK_yes c s k;have HZ:Hid (¬ 0<left (c.getD k du0).a (sumK c k+(c.getD k du0).a) s→recK c s (k+1)=recK c s k):=recK_no c s k;have ak:(recK c s k).length≤1000000:=by have:=recK_len c s k;omega
    clear hc X hu ho;generalize recK c s k=Z at *;generalize M:sumK c k=q at *;generalize (c.getD k du0).a=x at *;generalize (c.getD k du0).b=y at *;have am:=zye wr #[zI x,zI y] 42;generalize hR:max 0 (s-q)=R at *;have an:0≤R:=by omega
    have ao:R≤100000000:=by omega
    have al:=tar.run_min R x _ rfl;generalize hp:min R x=p at *;have au:0≤p:=by omega
    have av:p≤x:=by omega
    have aw:p≤R:=by omega
    by_cases B:0<x-p
    ·
     have H:Hid (R-p=max 0 (s-sumK c (k+1))):=by show _=_;rw[← HN.o];omega
     have ae:decide (0<x-p)=true:=decide_eq_true B;have A:left x (q+x) s=x-p:=by unfold left;omega
     rw[A] at HY;have K:Hid (recK c s (k+1)=Z++[⟨x-p,y⟩]):=HY.o B;clear A;clear M hR hp O;go_wp2_with refine zl ?_;intro z i;have r:=zyb i;have j:zB wr z:=i.bel _ _ zc (zb.alloc zc _);have n:=shB G j;have J:=zh (HU.o.next j);have d0:=zy0 r;have d1:=zy1 r;clear i j c0 c1;have F:=zyf n (.cells #[zI (x-p),zI y] 42);have U:Hid (Ld 42 (z.alloc (.cells #[zI (x-p),zI y] 42)) P.heap.size V Z):=J.o.alloc _;have a8:Hid ((z.alloc (.cells #[zI (x-p),zI y] 42)).cell? ⟨z.heap.size,0,none⟩=some (zI (x-p))∧(z.alloc (.cells #[zI (x-p),zI y] 42)).cell? ⟨z.heap.size,1,none⟩=some (zI y)):=⟨(Blk.new z _ _).cell 0,(Blk.new z _ _).cell 1⟩
     go_wp2_with (first
      |(at_builtin;refine tar.wp_pair debtT rfl _ _ rfl P.heap.size (z.heap.size) V Z ⟨x-p,y⟩ rfl rfl U.o a8.o ak F.o.size ?_)
      | fail)
     intro v3 w3 h3 a2;have a6:Hid (zB P w3):=tar.own_bel U.o a2 F.o zc F.o.size;have H3:=zh h3;clear h3 a2 d0 d1;go_wp2_with fail;go_roundw
     case rel=>exact⟨k+1,v3,by omega,by go_num,by rw[← H.o],by first|rfl|trivial,by rw[K.o];exact H3.o,a6.o⟩
     case measure=>simp[intOf];omega
    ·
     have H:Hid (R-p=max 0 (s-sumK c (k+1))):=by show _=_;rw[← HN.o];omega
     have ae:decide (0<x-p)=false:=decide_eq_false B;have A:¬ 0<left x (q+x) s:=by unfold left;omega
     have K:Hid (recK c s (k+1)=Z):=HZ.o A;clear A;clear M hR hp O;go_wp2_with refine zl ?_;intro z i;have r:=zyb i;have j:zB wr z:=i.bel _ _ zc (zb.alloc zc _);have n:=shB G j;have J:=zh (HU.o.next j);have d0:=zy0 r;have d1:=zy1 r;clear i j c0 c1;go_wp2_with fail;go_roundw
     case rel=>exact⟨k+1,V,by omega,by go_num,by rw[← H.o],by first|rfl|trivial,by rw[K.o];exact J.o,n.o⟩
     case measure=>simp[intOf];omega
   ·obtain rfl:k=len:=by omega
    have af:decide ((k:Int)<(k:Int))=false:=by simp
    have HV:Hid (sumK c k=sumD c):=by have:=sumK_all c;rw[g.o] at this;exact this
    have aa:Hid (recK c s k=recK c (t*bp/10000) c.length):=by show _=_;rw[g.o,T.o]
    have a4:Mays (recK c s k):=⟨Nat.le_trans (recK_len c s k) ag,fits_mem λd hd=>(recK_ok Q.o s k (by rw[g.o];exact zc) d hd).1⟩
    obtain⟨a3,W,aj,a1⟩:=ld_fresh hu a4;subst aj;have a9:=zh (a1.low m.o.size);have a7:=zh (m.o.trans (G.o.mono m.o.size));have HP:Hid (s-max 0 (s-sumK c k)=min (t*bp/10000) (sumD c)):=by show _=_;rw[← T.o,← HV.o];omega
    clear X hu a4 a1;generalize (recK c s k).length=a5 at *;generalize recK c s k=Z at *;generalize hq:max 0 (s-sumK c k)=q at *;have ax:0≤q:=by omega
    have M:q≤s:=by omega
    clear hq O;go_wp2_with fail;go_ret3;exact⟨a3,a5,W,Z,s-q,0,rfl,.inr (.inr ⟨Q.o,HT.o,rfl,aa.o,HP.o⟩),a9.o,a7.o⟩
 ·have Q:=zh C;have HT:=zh S;clear S C;go_wp2_with fail;go_ret3;exact⟨none,0,0,[],0,2,rfl,.inr (.inl ⟨Q.o,HT.o,rfl,rfl,rfl⟩),fresh_nil _ _,m.o⟩
end deb
namespace acc
open tar (Du du0 Came RowD Ld PairT)
open Go.RowKit
set_option maxRecDepth 100000
set_option maxHeartbeats 4000000 in
theorem powe(g : Nat)(x : Ac)(p : Option Addr)(len cap : Nat)(q : Du)(w : World)(hw : Blk w g (wcs x bi0 p len cap) 132)(hl : Ld 42 w (g + 1) (.slice p len cap) x.ds)(ha : AMay x): Calls Tryz.prog 191 #[.pointer (some ⟨g, 0, none⟩), .agg #[.int .i64 q.a, .int .i64 q.b]] w λe w' => WPost w g (Or0 (λy _ f => OweIs x q y f)) e w' := by
 have hgl := hw.lt
 have hdm := ha.1
 have hle : x.ds.length = len := by obtain⟨a0, c0, hv, _⟩ := hl.row; injection hv with _ h2 _; exact h2.symm
 have HDF : Hid (deb.Fresh w (g + 1) p len cap x.ds) := by
  obtain⟨a0, c0, hv, hf⟩ := deb.ld_fresh hl hdm
  injection hv with h1 h2 h3
  rw[h1, h2, h3]; exact hf
 have hl8 : len ≤ 8 := by have := hdm.1; omega
 have HM := zh ha
 have HI1 : Hid (∀W, zC 66 #[.int .i64 1, .int .i64 1000000000, .int .i64 q.a] W λe w' => e=.returned (.bool (decide (1 ≤ q.a ∧ q.a ≤ 1000000000))) ∧ w' = W) := λW => awithin 1 1000000000 q.a W
 have HI2 : Hid (∀W, zC 66 #[.int .i64 0, .int .i64 10000, .int .i64 q.b] W λe w' => e=.returned (.bool (decide (0 ≤ q.b ∧ q.b ≤ 10000))) ∧ w' = W) := λW => awithin 0 10000 q.b W
 have HOW : Hid (∀(e : some w.heap.size = (Value.slice p len cap).ownBlock), False) := λe => by have := (World.ownsRow.lt hl _ e.symm).2; omega
 have H0B : Hid (zB w (w.alloc (.cells #[.int .i64 q.a, .int .i64 q.b] 42))) := (Below.refl w.heap.size w).alloc (by simp) _
 have H0e : Hid (Blk (w.alloc (.cells #[.int .i64 q.a, .int .i64 q.b] 42)) w.heap.size #[.int .i64 q.a, .int .i64 q.b] 42) := Blk.new w _ _
 have H0g : Hid (Blk (w.alloc (.cells #[.int .i64 q.a, .int .i64 q.b] 42)) g #[.int .i64 x.me, .int .i64 x.rv, .int .i64 x.nx, .int .i64 x.mo, .int .i64 x.bo, .int .i64 x.fr, .slice p len cap, .int .i64 0, .int .i64 0, .int .i64 0, .int .i64 0, .int .i64 0, .int .i64 0, .int .i64 0] 132) := hw.alloc _
 have H0L : Hid (Ld 42 (w.alloc (.cells #[.int .i64 q.a, .int .i64 q.b] 42)) (g + 1) (.slice p len cap) x.ds) := hl.alloc _
 have H0F := zh (HDF.out.below H0B.out)
 have H0G : Hid (Below g w (w.alloc (.cells #[.int .i64 q.a, .int .i64 q.b] 42))) := H0B.out.mono (by omega)
 have hsz := H0e.out.lt
 clear hw hl ha
 generalize hWW : (w.alloc (.cells #[.int .i64 q.a, .int .i64 q.b] 42)) = W0 at *
 have HWW := zh hWW
 clear hWW
 have e0 := H0e.out.cell 0
 have e1 := H0e.out.cell 1
 have g6 := H0g.out.cell 6
 go_enter Tryz.func191, Tryz.ntmps191
 go_upto_region 1 with fail
 rw[HWW.out]
 by_cases h1 : 1 ≤ q.a ∧ q.a ≤ 1000000000
 ·rw[decide_eq_true h1] at HI1
  go_wp2_with fail
  refine(HI1.out _).mono ?_
  rintro e wz ⟨rfl, hwz⟩
  subst wz
  by_cases h2 : 0 ≤ q.b ∧ q.b ≤ 10000
  ·rw[decide_eq_true h2] at HI2
   go_wp2_with fail
   refine(HI2.out _).mono ?_
   rintro e wz ⟨rfl, hwz⟩
   subst wz
   clear HI2
   by_cases h3 : len<8
   ·have d3 : ((len : Int)==8) = false := by simp; omega
    have HMN : Hid (deb.Mays (x.ds ++ [q])) := ⟨by rw [List.length_append, hle]; show len + 1 ≤ 8; omega, deb.fits_mem fun d hd => by
     rcases List.mem_append.1 hd with hd|hd
     ·exact deb.mem_fits hdm.2 d hd
     ·have e2 := List.mem_singleton.1 hd
      subst e2
      exact ⟨⟨by omega, h1.2⟩, h2⟩⟩
    have hzl : x.ds.length ≤ 1000000 := by omega
    have HV : Hid (Or0 (λy _ f => OweIs x q y f) ⟨x.me, x.rv, x.nx, x.mo, x.bo, x.fr, x.ds ++ [q]⟩ bi0 0) :=.inr ⟨rfl, .inr (.inr (.inr ⟨HM.out, ⟨h1, h2⟩, by rw[hle]; exact h3, rfl, rfl⟩))⟩
    have HZL : Hid (x.ds.length ≤ 1000000) := hzl
    clear h1 h2 h3 hdm hle hzl
    go_wp2_with fail
    clear e0 e1
    have HED : Hid (Blk W0.drew w.heap.size #[.int .i64 q.a, .int .i64 q.b] 42) := Blk.drew H0e.out 1
    have q6 : W0.drew.cell? ⟨g, 6, none⟩ = some (.slice p len cap) := H0g.out.cell 6
    have HEA : Hid (Blk (W0.alloc (.cells #[.int .i64 q.a, .int .i64 q.b] 42)).drew w.heap.size #[.int .i64 q.a, .int .i64 q.b] 42) := HED.out.alloc _
    have HGA : Hid (Blk (W0.alloc (.cells #[.int .i64 q.a, .int .i64 q.b] 42)).drew g #[.int .i64 x.me, .int .i64 x.rv, .int .i64 x.nx, .int .i64 x.mo, .int .i64 x.bo, .int .i64 x.fr, .slice p len cap, .int .i64 0, .int .i64 0, .int .i64 0, .int .i64 0, .int .i64 0, .int .i64 0, .int .i64 0] 132) := H0g.out.alloc _
    have HLA : Hid (Ld 42 (W0.alloc (.cells #[.int .i64 q.a, .int .i64 q.b] 42)).drew (g + 1) (.slice p len cap) x.ds) := H0L.out.alloc _
    have HCA : Hid ((W0.alloc (.cells #[.int .i64 q.a, .int .i64 q.b] 42)).drew.cell? ⟨W0.heap.size, 0, none⟩ = some (.int .i64 q.a) ∧ (W0.alloc (.cells #[.int .i64 q.a, .int .i64 q.b] 42)).drew.cell? ⟨W0.heap.size, 1, none⟩ = some (.int .i64 q.b)) := ⟨(Blk.new W0 _ _).cell 0, (Blk.new W0 _ _).cell 1⟩
    have HBA : Hid (Below g w (W0.alloc (.cells #[.int .i64 q.a, .int .i64 q.b] 42)).drew) := bel_drew (H0G.out.alloc (by omega) _) 1
    have hsA : W0.heap.size<(W0.alloc (.cells #[.int .i64 q.a, .int .i64 q.b] 42)).drew.heap.size := (Blk.new W0 #[.int .i64 q.a, .int .i64 q.b] 42).lt
    refine wp_region_held_drew (S := λv => Blk v (w.heap.size) #[.int .i64 q.a, .int .i64 q.b] 42) (by kernel_rfl) HED.out (λhHeld => ?_)
    refine zt' 0 (.pointer (some ⟨g, 0, none⟩)) ?_
    refine zt' 1 (.pointer (some ⟨g, 0, none⟩)) ?_
    refine zt' 2 (.pointer (some ⟨g, 0, none⟩)) ?_
    refine zt' 3 (.pointer (some ⟨g, 0, none⟩)) ?_
    refine zt' 4 (.pointer (some ⟨g, 6, none⟩)) ?_
    refine zu' 6 (.agg #[.int .i64 q.a, .int .i64 q.b]) rfl rfl (Or.inl ⟨by rfl, λv hv => by have g0 := hv.cell 0; have g1 := hv.cell 1; clear hv; go_simp⟩) ?_
    refine wpAnyH_ready (rs := [5, 7]) (by kernel_rfl) (by simp) (AllReadyH.cons rfl (λK hK => ?_) (AllReadyH.cons rfl (λK hK => ?_) AllReadyH.nil))
    all_goals rw[if_pos (by rfl)]
    ·refine wp_runOp (v :=.slice p len cap) (w' := W0.drew) 29 rfl (by clear hK; go_simp) ?_
     refine hK.out _ _ HED.out (λhHeld => ?_)
     clear hK K q6
     simp only[Act.put, zqa, zqb, zqc]
     refine zo 7 λK hK => ?_
     rw[if_pos (by rfl)]
     refine wp_runOp (v :=.slice (some ⟨W0.heap.size, 0, none⟩) 1 1) (w' := (W0.alloc (.cells #[.int .i64 q.a, .int .i64 q.b] 42)).drew) 31 rfl (by clear hK; go_simp) ?_
     refine hK.out _ _ HEA.out (λhHeld => ?_)
     clear hK K
     simp only[Act.put, zqa, zqb, zqc]
     generalize (W0.alloc (.cells #[.int .i64 q.a, .int .i64 q.b] 42)).drew = WA at *
     generalize W0.heap.size = hA at *
     refine zo 8 λK hK => ?_
     refine tar.step_pair deb.debtT rfl _ _ rfl (g + 1) hA (.slice p len cap) x.ds q rfl rfl HLA.out HCA.out HZL.out (by omega) ?_
     intro v5 w5 h5 hg5
     obtain⟨p5, c5, hv5, hf5⟩ := deb.ld_fresh h5 HMN.out
     subst hv5
     have H5g := zh (grown_blk HGA.out hg5 (tar.own_far HLA.out (by omega)))
     have H5e : Hid (Blk w5 w.heap.size #[.int .i64 q.a, .int .i64 q.b] 42) := grown_blk HEA.out hg5 (λe => HOW.out e)
     have H5B := zh (tar.own_bel HLA.out hg5 HBA.out (by omega) (by omega))
     have H5F := zh hf5
     refine hK.out _ _ H5e.out (λhHeld => ?_)
     clear hK K h5 hg5 hf5
     simp only[Act.put, zqa, zqb, zqc]
     generalize (x.ds ++ [q]).length = n5 at *
     refine zt' 9 (.pointer (some ⟨g, 0, none⟩)) ?_
     refine zt' 10 (.pointer (some ⟨g, 0, none⟩)) ?_
     refine zt' 11 (.pointer (some ⟨g, 6, none⟩)) ?_
     refine zo 12 λK hK => ?_
     rw[if_pos (by rfl)]
     refine wp_letOp1 53 _ _ rfl g 6 rfl (.slice p5 n5 c5) rfl rfl (by kernel_rfl) rfl #[.int .i64 x.me, .int .i64 x.rv, .int .i64 x.nx, .int .i64 x.mo, .int .i64 x.bo, .int .i64 x.fr, .slice p len cap, .int .i64 0, .int .i64 0, .int .i64 0, .int .i64 0, .int .i64 0, .int .i64 0, .int .i64 0] 132 H5g.out (by simp) rfl ?_
     intro W6 hU
     have H6g := zh hU.blk
     have H6e := zk1 hU H5e
     have H6B : Hid (Below g w W6) := hU.bel _ _ zc H5B.out
     have H6F := zh (fresh_chg H5F.out (.upd hU))
     refine hK.out _ _ H6e.out (λhHeld => ?_)
     clear hK K hU
     refine wpAnyH_done (by kernel_rfl) ?_ _
     clear hHeld
     go_wp2_with fail
     go_ret
     exact⟨⟨x.me, x.rv, x.nx, x.mo, x.bo, x.fr, x.ds ++ [q]⟩, bi0, p5, n5, c5, 0, rfl, HV.out, H6g.out, H6F.out, H6B.out⟩
    ·refine wp_runOp (v :=.slice (some ⟨W0.heap.size, 0, none⟩) 1 1) (w' := (W0.alloc (.cells #[.int .i64 q.a, .int .i64 q.b] 42)).drew) 31 rfl (by clear hK; go_simp) ?_
     refine hK.out _ _ HEA.out (λhHeld => ?_)
     clear hK K q6
     have q7 := HGA.out.cell 6
     simp only[Act.put, zqa, zqb, zqc]
     refine zo 5 λK hK => ?_
     rw[if_pos (by rfl)]
     refine wp_runOp (v :=.slice p len cap) (w' := (W0.alloc (.cells #[.int .i64 q.a, .int .i64 q.b] 42)).drew) 29 rfl (by clear hK; go_simp) ?_
     refine hK.out _ _ HEA.out (λhHeld => ?_)
     clear hK K q7
     simp only[Act.put, zqa, zqb, zqc]
     generalize (W0.alloc (.cells #[.int .i64 q.a, .int .i64 q.b] 42)).drew = WA at *
     generalize W0.heap.size = hA at *
     refine zo 8 λK hK => ?_
     refine tar.step_pair deb.debtT rfl _ _ rfl (g + 1) hA (.slice p len cap) x.ds q rfl rfl HLA.out HCA.out HZL.out (by omega) ?_
     intro v5 w5 h5 hg5
     obtain⟨p5, c5, hv5, hf5⟩ := deb.ld_fresh h5 HMN.out
     subst hv5
     have H5g := zh (grown_blk HGA.out hg5 (tar.own_far HLA.out (by omega)))
     have H5e : Hid (Blk w5 w.heap.size #[.int .i64 q.a, .int .i64 q.b] 42) := grown_blk HEA.out hg5 (λe => HOW.out e)
     have H5B := zh (tar.own_bel HLA.out hg5 HBA.out (by omega) (by omega))
     have H5F := zh hf5
     refine hK.out _ _ H5e.out (λhHeld => ?_)
     clear hK K h5 hg5 hf5
     simp only[Act.put, zqa, zqb, zqc]
     generalize (x.ds ++ [q]).length = n5 at *
     refine zt' 9 (.pointer (some ⟨g, 0, none⟩)) ?_
     refine zt' 10 (.pointer (some ⟨g, 0, none⟩)) ?_
     refine zt' 11 (.pointer (some ⟨g, 6, none⟩)) ?_
     refine zo 12 λK hK => ?_
     rw[if_pos (by rfl)]
     refine wp_letOp1 53 _ _ rfl g 6 rfl (.slice p5 n5 c5) rfl rfl (by kernel_rfl) rfl #[.int .i64 x.me, .int .i64 x.rv, .int .i64 x.nx, .int .i64 x.mo, .int .i64 x.bo, .int .i64 x.fr, .slice p len cap, .int .i64 0, .int .i64 0, .int .i64 0, .int .i64 0, .int .i64 0, .int .i64 0, .int .i64 0] 132 H5g.out (by simp) rfl ?_
     intro W6 hU
     have H6g := zh hU.blk
     have H6e := zk1 hU H5e
     have H6B : Hid (Below g w W6) := hU.bel _ _ zc H5B.out
     have H6F := zh (fresh_chg H5F.out (.upd hU))
     refine hK.out _ _ H6e.out (λhHeld => ?_)
     clear hK K hU
     refine wpAnyH_done (by kernel_rfl) ?_ _
     clear hHeld
     go_wp2_with fail
     go_ret
     exact⟨⟨x.me, x.rv, x.nx, x.mo, x.bo, x.fr, x.ds ++ [q]⟩, bi0, p5, n5, c5, 0, rfl, HV.out, H6g.out, H6F.out, H6B.out⟩
   ·have d3 : ((len : Int)==8) = true := by simp; omega
    have HV : Hid (Or0 (λy _ f => OweIs x q y f) x bi0 16) :=.inl ⟨by decide, .inr (.inr (.inl ⟨HM.out, ⟨h1, h2⟩, by rw[hle]; exact h3, rfl, rfl⟩))⟩
    clear h1 h2 h3
    go_wp2_with fail
    go_ret
    exact⟨x, bi0, p, len, cap, 16, rfl, HV.out, H0g.out, H0F.out, H0G.out⟩
  ·rw[decide_eq_false h2] at HI2
   have HV : Hid (Or0 (λy _ f => OweIs x q y f) x bi0 2) :=.inl ⟨by decide, .inr (.inl ⟨HM.out, λhh => h2 hh.2, rfl, rfl⟩)⟩
   clear h2
   go_wp2_with fail
   refine(HI2.out _).mono ?_
   rintro e wz ⟨rfl, hwz⟩
   subst wz
   go_wp2_with fail
   all_goals first
    |(rename_i q1 q2; exact absurd q1 (by simp[undef]))
    |(go_ret; exact⟨x, bi0, p, len, cap, 2, rfl, HV.out, H0g.out, H0F.out, H0G.out⟩)
 ·rw[decide_eq_false h1] at HI1
  have HV : Hid (Or0 (λy _ f => OweIs x q y f) x bi0 2) :=.inl ⟨by decide, .inr (.inl ⟨HM.out, λhh => h1 hh.1, rfl, rfl⟩)⟩
  clear h1
  go_wp2_with fail
  refine(HI1.out _).mono ?_
  rintro e wz ⟨rfl, hwz⟩
  subst wz
  go_wp2_with fail
  all_goals first
   |(rename_i q1 q2; exact absurd q1 (by simp[undef]))
   |(go_ret; exact⟨x, bi0, p, len, cap, 2, rfl, HV.out, H0g.out, H0F.out, H0G.out⟩)
end acc
end Go.Proofs.YtoepgdhiepedeaaGreatDoor
