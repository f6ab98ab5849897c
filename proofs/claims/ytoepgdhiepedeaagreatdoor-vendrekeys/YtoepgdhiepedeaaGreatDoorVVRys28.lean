import Derived.Test.YtoepgdhiepedeaaGreatDoorVVRys17
import Derived.Test.YtoepgdhiepedeaaGreatDoorVVRys20
import Derived.Test.YtoepgdhiepedeaaGreatDoorVVRys27
set_option linter.unusedVariables false
set_option linter.unusedSimpArgs false
set_option maxHeartbeats 4000000
set_option maxRecDepth 100000
namespace Go.Proofs.YtoepgdhiepedeaaGreatDoor
namespace book
open Go.RowKit
theorem rfound(p:Option Addr)(n cap:Nat)(l:List Cu)(me:Int)(w:World)(h:RowC w p n l)(hn:n≤9223372036854775807):Calls Tryz.prog 21 #[.agg #[.slice p n cap],zI me] w λe w'=>∃x,e=.returned (zI x)∧FoundIs l me x∧zB w w':=by
 obtain⟨W,r,C,f,-⟩:=sh1 w #[.slice p n cap] 65;have B:Hid (RowC W p n l):=h.below f.o;have A:Hid (l.length=n):=h.1;clear h;go_enter Tryz.func21,Tryz.ntmps21;go_upto_region 1 with fail
 rw[r.o];have G:W.cell? ⟨w.heap.size,0,none⟩=some (.slice p n cap):=C.o.cell 0;go_wp2_with fail;go_loopw [5] (λi wr=>∃k:Nat,k≤n∧i=zI (k:Int)∧(∀j,j<k→(l.getD j cu0).me≠me)∧wr=W) (λi _=>n-(intOf i).toNat)
 case atStart=>exact⟨0,Nat.zero_le _,rfl,λj c=>absurd c (Nat.not_lt_zero _),rfl⟩
 case round=>
  obtain⟨k,F,rfl,hf,u⟩:=hrel;subst u;have g:Hid (∀j,j<k→(l.getD j cu0).me≠me):=hf;clear hf;by_cases d:k<n
  ·obtain⟨b,y,rfl,H,s⟩:=B.o.2.resolve_left (by omega);have c0:wr.cell? ⟨b,y+k*8,none⟩=some (zI (l.getD k cu0).me):=s k 0 d (by decide);have E:Hid ((l.getD k cu0).me=(l.getD k cu0).me):=rfl;have t:decide ((k:Int)<(n:Int))=true:=by simp;omega
   by_cases a:(l.getD k cu0).me=me
   ·have D:((l.getD k cu0).me==me)=true:=by simpa using a
    have q:Hid (FoundIs l me (k:Int)):=.inl ⟨k,by rw[A.o];exact d,a,g.o,rfl⟩;clear s a;generalize (l.getD k cu0).me=z at *;go_wp2_with fail;go_ret;exact⟨_,rfl,q.o,f.o⟩
   ·have D:((l.getD k cu0).me==me)=false:=by simpa using a
    have m:Hid (∀j,j<k+1→(l.getD j cu0).me≠me):=λj c=>by
     by_cases e:j=k
     ·subst e;exact a
     ·exact g.o j (by omega)
    clear s a;generalize (l.getD k cu0).me=z at *;go_wp2_with fail;go_roundw
    case rel=>exact⟨k+1,by omega,by go_num,m.o,by first|rfl|trivial⟩
    case measure=>simp[intOf];omega
  ·obtain rfl:k=n:=by omega
   have t:decide ((k:Int)<(k:Int))=false:=by simp
   have q:Hid (FoundIs l me (-1)):=.inr ⟨λj c=>g.o j (by rw[A.o] at c;exact c),rfl⟩;go_wp2_with fail;go_ret;exact⟨_,rfl,q.o,f.o⟩
end book
namespace ora
open Go.RowKit
set_option maxRecDepth 100000
set_option maxHeartbeats 1000000 in
theorem oracles_any(a : Option Addr)(len cap : Nat)(l : List Pr)(w : World)(hr : RowP w a len l)(hn : a = none → cap = 0)(hl : len * 32 ≤ 140737488351232):
  Calls Tryz.prog 7 #[.agg #[.slice a len cap]] w λe w' => GaveO w l e w' := by
 obtain⟨i0, hi, hz0, hz1, hz2⟩ := info_parts info_pr
 have HX : Hid (Bi w ((w.alloc (.cells #[.slice a len cap] 28)).alloc (.cells #[.slice none 0 0] 28)) a len cap l) := ⟨(Bo.new hr).alloc _, Blk.new1 w _ _ _⟩
 have HZ : Hid (l.length = len) := hr.1
 have c0 := HX.out.bo.box.cell 0
 cases a with
 |none =>
  have hc := hn rfl
  have h0 : len = 0 := by rcases hr.2 with h|⟨b, off, h, _⟩; exact h; cases h
  subst hc h0
  obtain rfl : l = [] := List.eq_nil_of_length_eq_zero HZ.out
  have happ : ∀w : World, (Builtin.append_ #[26, 26] 26 #[.slice none 0 0, .slice none 0 0]).run Tryz.prog w=.ok (.slice none 0 0) w := λw => by kernel_rfl
  have R0 : Hid (_ = _) := HX.out.out.cell 0
  clear hr
  go_enter Tryz.func7, Tryz.ntmps7
  go_wp2_with fail
  exact bodyPost_ret (v :=.agg #[.slice none 0 0]) (by simp[results, Tryz.results7, R0.out, go_sem]) rfl ⟨_, rfl, Pw.zero _ _, HX.out.bo.bel⟩
 |some x =>
  have HR : Hid (RowP ((w.alloc (.cells #[.slice (some x) len cap] 28)).alloc (.cells #[.slice none 0 0] 28)) (some x) len l) := HX.out.bo.row
  have HSZ : Hid (w.heap.size + 2 ≤ ((w.alloc (.cells #[.slice (some x) len cap] 28)).alloc (.cells #[.slice none 0 0] 28)).heap.size) := HX.out.out.lt
  clear hr
  go_enter Tryz.func7, Tryz.ntmps7
  go_wp2_with (first
   |(at_builtin; refine wpList_append_own _ rfl _ _ 26 rfl (w.heap.size + 2) 87 i0 (.agg #[.int .i64 0, .int .i64 0, .int .i64 0, .int .i64 0]) 4 32 Tryz.underlying26 hi hz0 hz1 hz2 rfl (by decide) _ _ _ rfl (World.ownsRow_nil _ _ _ _) x len cap (cellsP l) rfl ?c0 ?c1 (oneP l) ?c3 ?c4 HSZ.out ?_)
   | go_in)
  case c0 => rw[cellsP_len, HZ.out]
  case c1 =>
   intro j u hu
   rcases HR.out.2 with h|⟨b, off, h, hc⟩
   ·rw[List.getElem?_eq_none (by rw[cellsP_len, HZ.out]; omega)] at hu; cases hu
   ·obtain rfl := Option.some.inj h
    rw[Addr.add_lit]
    exact cellsP_get HZ.out hc j u hu
  case c3 => unfold maxLen; omega
  case c4 => omega
  intro v' w' hown hg _
  have HW : Hid (Pw w' (w.heap.size + 2) v' l) := by show w'.ownsRow _ _ _ _ _ _; rw[HZ.out]; simpa using hown
  have hb' : zB w w' := HX.out.bo.bel.grown hg (by have := HSZ.out; omega) (λk hk => by simp[Value.ownBlock] at hk)
  have hout := Blk.pgrown HX.out.out hg (by simp[Value.ownBlock])
  have z0 := hout.cell 0
  have y0 := hout.free 0
  have HXX := hout.set 0 v'
  have R0 : Hid (_ = _) := HXX.cell 0
  have HF : Hid (Pw (w'.setCell ⟨w.heap.size + 1, 0, none⟩ v') w.heap.size v' l ∧ zB w (w'.setCell ⟨w.heap.size + 1, 0, none⟩ v')) := ⟨(HW.out.put _ _ _ (by omega)).low (by omega), bel_set hb' _ _ _ (by omega)⟩
  obtain⟨av, cv, hV, _, _, _⟩ := HW.out.row
  clear hown hg hb' hout c0
  subst hV
  go_wp2_with fail
  exact bodyPost_ret (v :=.agg #[.slice av l.length cv]) (by simp[results, Tryz.results7, R0.out, go_sem]) rfl ⟨_, rfl, HF.out.1, HF.out.2⟩
theorem peq(d : Nat)(a b : Int)(w : World): (Op.equalIn (d + 1) 3 (.int .i64 a) (.int .i64 b)).run Tryz.prog w=.ok (a==b) w := run_equalIn_int w d _ _ _ a b Tryz.underlying3
theorem pt0(a b c e : Int)(w : World): (part 3 #[.int .i64 a, .int .i64 b, .int .i64 c, .int .i64 e] 0).run Tryz.prog w=.ok (.int .i64 a) w := by kernel_rfl
theorem pt1(a b c e : Int)(w : World): (part 3 #[.int .i64 a, .int .i64 b, .int .i64 c, .int .i64 e] 1).run Tryz.prog w=.ok (.int .i64 b) w := by kernel_rfl
theorem pt2(a b c e : Int)(w : World): (part 3 #[.int .i64 a, .int .i64 b, .int .i64 c, .int .i64 e] 2).run Tryz.prog w=.ok (.int .i64 c) w := by kernel_rfl
theorem pt3(a b c e : Int)(w : World): (part 3 #[.int .i64 a, .int .i64 b, .int .i64 c, .int .i64 e] 3).run Tryz.prog w=.ok (.int .i64 e) w := by kernel_rfl
theorem eqPr(a b c e : Int)(w : World):
  (Op.equalIn 10000 87 (.agg #[.int .i64 a, .int .i64 b, .int .i64 c, .int .i64 e]) (.agg #[.int .i64 a, .int .i64 b, .int .i64 c, .int .i64 e])).run Tryz.prog w=.ok true w := by
 rw[show (10000 : Nat) = 9999 + 1 from rfl, run_equalIn_agg w 9999 87 _ _ (by kernel_rfl) (by kernel_rfl)]
 simp only[Program.fieldsOf, Tryz.underlying87, Op.eqFields, Sem.run_bind, Sem.run_ite]
 simp[pt0, pt1, pt2, pt3, show (9999 : Nat) = 9998 + 1 from rfl, peq]
set_option maxHeartbeats 2000000 in
theorem same_any(a b : Option Addr)(n c1 c2 : Nat)(l : List Pr)(w : World)(h1 : RowP w a n l)(h2 : RowP w b n l)(hn : n * 32 ≤ 140737488351232):
  Calls Tryz.prog 12 #[.agg #[.slice a n c1], .agg #[.slice b n c2]] w λe w' => e=.returned (.bool true) ∧ zB w w' := by
 have hne : ((n : Int) != (n : Int)) = false := by simp
 have hn' : n ≤ 140737488351232 := by omega
 clear hn
 have HB0 : Hid (Blk ((w.alloc (.cells #[.slice a n c1] 28)).alloc (.cells #[.slice b n c2] 28)) w.heap.size #[.slice a n c1] 28 ∧ Blk ((w.alloc (.cells #[.slice a n c1] 28)).alloc (.cells #[.slice b n c2] 28)) (w.heap.size + 1) #[.slice b n c2] 28 ∧ zB w ((w.alloc (.cells #[.slice a n c1] 28)).alloc (.cells #[.slice b n c2] 28))) :=
  ⟨(Blk.new w _ _).alloc _, Blk.new1 w _ _ _, (zb.alloc zc _).alloc (palloc_le zc _) _⟩
 have HR : Hid (RowP w a n l ∧ RowP w b n l) := ⟨h1, h2⟩
 clear h1 h2
 have c0 := HB0.out.1.cell 0
 have e0 := HB0.out.2.1.cell 0
 go_enter Tryz.func12, Tryz.ntmps12
 go_wp2_with fail
 clear c0 e0
 generalize (w.alloc (.cells #[.slice a n c1] 28)).alloc (.cells #[.slice b n c2] 28) = W0 at *
 go_loopw [5] (λj wr => ∃k : Nat, k ≤ n ∧ j=.int .i64 (k : Int) ∧ Blk wr w.heap.size #[.slice a n c1] 28 ∧ Blk wr (w.heap.size + 1) #[.slice b n c2] 28 ∧ zB w wr) (λj _ => n-(intOf j).toNat)
 case atStart => exact⟨0, Nat.zero_le _, rfl, HB0.out⟩
 case round =>
  obtain⟨k, hk, rfl, hx⟩ := hrel
  have HI : Hid (Blk wr w.heap.size #[.slice a n c1] 28 ∧ Blk wr (w.heap.size + 1) #[.slice b n c2] 28 ∧ zB w wr) := hx
  clear hx
  have c0 := HI.out.1.cell 0
  have e0 := HI.out.2.1.cell 0
  by_cases hlt : k<n
  ·obtain⟨b1, o1, rfl, _, hc1⟩ := (HR.out.1.below HI.out.2.2).at (by omega)
   obtain⟨b2, o2, rfl, _, hc2⟩ := (HR.out.2.below HI.out.2.2).at (by omega)
   obtain⟨f0, f1, f2, f3⟩ := hc1 k hlt
   obtain⟨g0, g1, g2, g3⟩ := hc2 k hlt
   have hq := eqPr (l.getD k pr0).m (l.getD k pr0).r (l.getD k pr0).b (l.getD k pr0).t
   clear hc1 hc2
   generalize (l.getD k pr0).m = pm at *
   generalize (l.getD k pr0).r = prr at *
   generalize (l.getD k pr0).b = pb at *
   generalize (l.getD k pr0).t = pt at *
   go_wp2_with fail
   go_region
   all_goals go_wp2_with fail
   go_roundw
   case rel => exact⟨k + 1, by omega, by go_num, HI.out.1, HI.out.2.1, HI.out.2.2.drew⟩
   case measure => simp[intOf]; omega
  ·go_wp2_with fail
   go_ret
   exact⟨rfl, HI.out.2.2⟩
theorem oracles_row(a : Option Addr)(n cap : Nat)(l : List Pr)(w : World)(h : Came w a n cap l):
  Calls Tryz.prog 7 #[.agg #[.slice a n cap]] w λe w' => Copied w n l e w' :=
 (oracles_any a n cap l w h.row h.nil h.small).mono λe w' ⟨v, he, hv, hb⟩ => by
  obtain⟨x, c, rfl, d, f, b⟩ := hv.row
  rw[h.row.1] at he d b
  exact⟨x, c, he, ⟨d, f, b, h.small⟩, hb⟩
end ora
namespace acc
open tar (Du du0 Came RowD Ld PairT)
open Go.RowKit
theorem pgrant(g:Nat)(x:Ac)(p:Option Addr)(len cap:Nat)(t:Tm)(pt:Option Addr)(lt ct:Nat)(m:Int)(w:World)(hw:Blk w g (wcs x bi0 p len cap) 132)(hd:deb.Fresh w (g+1) p len cap x.ds)(ha:AMay x)(ht:Came w pt lt ct t.ts)(hwf:wf4 t)(hfar:Far pt lt g):Calls Tryz.prog 62 #[.pointer (some ⟨g,0,none⟩),.agg #[.slice pt lt ct,zI t.ff,zI t.fb,zI t.db,zI t.al],zI m] w λe w'=>DPost w g (Or0 (GrantIs x t m)) e w':=by
 have am:=hw.lt;have F:Hid (zB w (w.alloc (.cells #[.slice pt lt ct,zI t.ff,zI t.fb,zI t.db,zI t.al] 24))):=(Below.refl w.heap.size w).alloc (by simp) _;have Z:Hid (Chg w (w.alloc (.cells #[.slice pt lt ct,zI t.ff,zI t.fb,zI t.db,zI t.al] 24)) g):=.of F.o;have a2:=zye w #[.slice pt lt ct,zI t.ff,zI t.fb,zI t.db,zI t.al] 24;have a1:Hid (Blk (w.alloc (.cells #[.slice pt lt ct,zI t.ff,zI t.fb,zI t.db,zI t.al] 24)) g (wcs x bi0 p len cap) 132):=hw.alloc _;have a0:=zh (hd.below F.o);have M:=zh (ht.below F.o);have i:=zh hfar;have a8:Hid (∀W,Blk W g (wcs x bi0 p len cap) 132→deb.Fresh W (g+1) p len cap x.ds→Came W pt lt ct t.ts→zC 65 #[.pointer (some ⟨g,0,none⟩),.agg #[.slice pt lt ct,zI t.ff,zI t.fb,zI t.db,zI t.al],zI m] W λe w'=>DPost W g (BeginR x t m bi0) e w'):=λW j B J=>pbegin g x p len cap t pt lt ct bi0 m W j B ha J hwf hfar;have Q:=zh ha;have af:=ha.2.2.2.1;clear hw hd ht hwf hfar ha;generalize S:(w.alloc (.cells #[.slice pt lt ct,zI t.ff,zI t.fb,zI t.db,zI t.al] 24))=W0 at *;have ac:=zh S;clear S;go_enter Tryz.func62,Tryz.ntmps62;go_upto_region 1 with fail
 rw[ac.o];go_wp2_with refine zw ?_;refine(a8.o _ a1.o a0.o M.o).mono ?_;rintro e w1 ⟨y,b2,q,n,c,f,rfl,⟨Y,ad⟩,U,T,C⟩;subst ad;have s:=zh T;have b:=zh U;have u:Hid (Blk w1 (w.heap.size) #[.slice pt lt ct,zI t.ff,zI t.fb,zI t.db,zI t.al] 24):=Chg.keep (g:=g) (C) a2.o (by omega);have a3:=zh (came_chg M.o (C) i.o);have r:=zh (Z.o.trans (C));clear T C U;by_cases R:f=0
 ·skip
  subst R
  have a:TRight t∧RMay x m∧y=rolled x m:=by
   rcases Y with⟨j,B,_⟩|⟨_,_,J,_⟩|⟨j,B,J,_⟩
   ·exact absurd (B.ok.1 rfl) j
   ·exact absurd rfl J.ne
   ·exact⟨j,B,J⟩
  have z:Hid (Ready x t m):=⟨Q.o,a.1,a.2.1⟩
  have HT:=zh a.1;have a9:Hid (y=rolled x m):=a.2.2;have k:=rolled_same x m;rw[← a.2.2] at k;have ae:=(rolled_may Q.o a.2.1).2.2.2.2.2.1;rw[← a.2.2] at ae;have ak:deb.Mays y.ds:=by rw[a.2.2];exact(rolled_may Q.o a.2.1).1
  have I:Hid (y.nx=x.nx):=k.2.2.1;have ag:1≤y.nx∧y.nx≤1048576:=by rw[k.2.2.1];exact af
  have d:Hid (y.me=x.me∧y.rv=x.rv∧y.nx=x.nx∧y.mo=m∧y.fr=x.fr):=k;clear a Y k;by_cases E:t.al=0
  ·have d5:(t.al==0)=true:=by simpa using E
   have A:Hid (Or0 (GrantIs x t m) y bi0 22):=.inl ⟨by decide,.inr (.inl ⟨z.o,E,rfl,rfl,rfl⟩)⟩;clear E;have l:=zy4 u;go_wp2_with fail;go_ret;exact⟨y,bi0,q,n,c,22,rfl,A.o,b.o,s.o,r.o⟩
  ·have d5:(t.al==0)=false:=by simpa using E
   by_cases L:x.fr=m
   ·have d6:(y.fr==m)=true:=by simp;rw[d.o.2.2.2.2];exact L
    have A:Hid (Or0 (GrantIs x t m) y bi0 21):=.inl ⟨by decide,.inr (.inr (.inl ⟨z.o,E,L,rfl,rfl,rfl⟩))⟩;clear E L;have l:=zy4 u;have X:=zy5 b;go_wp2_with fail;go_ret;exact⟨y,bi0,q,n,c,21,rfl,A.o,b.o,s.o,r.o⟩
   ·have d6:(y.fr==m)=false:=by simp;rw[d.o.2.2.2.2];exact L
    have l:=zy4 u;have X:=zy5 b;go_wp2_with (first|(refine wp_let1 rfl 3 _ _ rfl g 5 rfl .i64 m rfl (by kernel_rfl) #[zI y.me,zI y.rv,zI y.nx,zI y.mo,zI y.bo,zI y.fr,.slice q n c,zI 0,zI 0,zI 0,zI 0,zI 0,zI 0,zI 0] 132 b.o (by simp) ?_)|fail)
    intro W2 h;have ah:=zyb h;have N:Hid (Blk W2 (w.heap.size) #[.slice pt lt ct,zI t.ff,zI t.fb,zI t.db,zI t.al] 24):=Chg.keep (g:=g) (.upd h) u.o (by omega);have a6:=zh (came_chg a3.o (.upd h) i.o);have a5:=zh (fresh_chg s.o (.upd h));have a4:=zh (r.o.trans (.upd h));clear h l X d5 d6;have l:=zy4 N;go_wp2_with refine zl ?_;intro W3 h;have a7:=zyb h;have aj:Hid (Blk W3 (w.heap.size) #[.slice pt lt ct,zI t.ff,zI t.fb,zI t.db,zI t.al] 24):=Chg.keep (g:=g) (.upd h) N.o (by omega);have ai:=zh (came_chg a6.o (.upd h) i.o);have P:=zh (fresh_chg a5.o (.upd h));have O:=zh (a4.o.trans (.upd h));clear h l
    have aa:Hid (⟨y.me,y.rv,y.nx+1,y.mo,y.bo,m,y.ds⟩=granted x m):=by
     show _=_;unfold granted;rw[← a9.o,d.o.1,d.o.2.1,d.o.2.2.1,d.o.2.2.2.1]
    have ab:Hid (zC 70 #[.pointer (some ⟨g,0,none⟩)] W3 λe w'=>NumPost W3 g ⟨y.me,y.rv,y.nx,y.mo,y.bo,m,y.ds⟩ ⟨0,0,0,0,0,0,t.al⟩ q n c e w'):=pnum g ⟨y.me,y.rv,y.nx,y.mo,y.bo,m,y.ds⟩ ⟨0,0,0,0,0,0,t.al⟩ q n c W3 a7.o ag;go_wp2_with fail;refine ab.o.mono ?_;rintro e wN ⟨D,⟨V,rfl,K⟩|⟨V,rfl,K⟩⟩
    ·have A:Hid (Or0 (GrantIs x t m) ⟨y.me,y.rv,y.nx,y.mo,y.bo,m,y.ds⟩ ⟨0,0,0,0,0,0,t.al⟩ 20):=.inl ⟨by decide,.inr (.inr (.inr (.inl ⟨z.o,E,L,by rw[← I.o];exact V,rfl,rfl,rfl⟩)))⟩;have H:=fresh_chg P.o D;have G:=O.o.trans D;clear V;go_wp2_with fail;go_ret;exact⟨⟨y.me,y.rv,y.nx,y.mo,y.bo,m,y.ds⟩,⟨0,0,0,0,0,0,t.al⟩,q,n,c,20,rfl,A.o,K,H,G⟩
    ·have A:Hid (Or0 (GrantIs x t m) ⟨y.me,y.rv,y.nx+1,y.mo,y.bo,m,y.ds⟩ ⟨y.nx,0,0,0,0,0,t.al⟩ 0):=.inr ⟨rfl,.inr (.inr (.inr (.inr ⟨z.o,E,L,by rw[← I.o];exact V,rfl,aa.o,by rw[I.o]⟩)))⟩;have H:=fresh_chg P.o D;have G:=O.o.trans D;clear V;go_wp2_with fail;go_ret;exact⟨⟨y.me,y.rv,y.nx+1,y.mo,y.bo,m,y.ds⟩,⟨y.nx,0,0,0,0,0,t.al⟩,q,n,c,0,rfl,A.o,K,H,G⟩
 ·skip
  have d0:(f != 0)=true:=by simpa using R
  have A:Hid (Or0 (GrantIs x t m) y bi0 f):=by
   refine .inl ⟨R,.inl ⟨?_,rfl,rfl⟩⟩;rcases Y with⟨j,B,_⟩|⟨j,B,J,_⟩|⟨_,_,_,j⟩
   ·exact .inr (.inl ⟨Q.o,j,B⟩)
   ·exact .inr (.inr ⟨Q.o,j,B,J⟩)
   ·exact absurd j R
  clear Y R;go_wp2_with fail;go_ret;exact⟨y,bi0,q,n,c,f,rfl,A.o,b.o,s.o,r.o⟩
theorem pgrant1(B0 B1 g:Nat)(x:Ac)(p:Option Addr)(len cap:Nat)(t:Tm)(pt:Option Addr)(lt ct:Nat)(m:Int)(w:World)(hB0:Blk w B0 #[.slice pt lt ct,zI t.ff,zI t.fb,zI t.db,zI t.al] 24)(hB1:Blk w B1 #[zI m] 3)(hw:Blk w g (wcs x bi0 p len cap) 132)(hd:deb.Fresh w (g+1) p len cap x.ds)(ha:AMay x)(ht:Came w pt lt ct t.ts)(hwf:wf4 t)(hfar:Far pt lt g):Calls Tryz.prog 61 #[.pointer (some ⟨g,0,none⟩),.pointer (some ⟨B0,0,none⟩),.pointer (some ⟨B1,0,none⟩)] w λe w'=>WPost w g (Or0 (GrantIs x t m)) e w':=by
 have a:Hid (zC 62 #[.pointer (some ⟨g,0,none⟩),.agg #[.slice pt lt ct,zI t.ff,zI t.fb,zI t.db,zI t.al],zI m] w λe w'=>WPost w g (Or0 (GrantIs x t m)) e w'):=(pgrant g x p len cap t pt lt ct m w hw hd ha ht hwf hfar).mono λe w' h=>h.w (Nat.le_of_lt hw.lt);have i:=zh hB0;have j:=zh hB1;have l:=hB1.cell 0;clear hw ha hd ht hwf hfar;go_enter Tryz.func61,Tryz.ntmps61;go_wp2_with refine zw ?_;refine a.o.mono ?_;rintro e r d;have k:=zh d;obtain⟨y,b,q,n,c,f,rfl,_⟩:=d;go_wp2_with fail;go_ret;exact k.o
theorem kgrant:KcGrant:=by
 intro w x p len n t H lt ct m ha ht hm;unfold Ac.v Ac.cs Tm.v;obtain⟨f,a4,I,z,u,K,J,d,aj⟩:=sh5 w #[zI x.me,zI x.rv,zI x.nx,zI x.mo,zI x.bo,zI x.fr,.slice p len n] 55 #[.slice H lt ct,zI t.ff,zI t.fb,zI t.db,zI t.al] 24 #[zI m] 3 #[zI 0,zI 0,zI 0,zI 0,zI 0,zI 0,zS] 55 #[zI 0,zI 0,zI 0,zI 0,zI 0,zI 0,zI 0] 33;have s:=zh (ha.ds.below d.o);go_enter Tryz.func30,Tryz.ntmps30;go_upto_region 1 with fail
 rw[a4.o];have a6:Hid (∀W,zB f W→Blk W (w.heap.size+1) #[.slice H lt ct,zI t.ff,zI t.fb,zI t.db,zI t.al] 24):=λW hW=>z.o.next hW;have a5:Hid (∀W,zB f W→Blk W (w.heap.size+1+1) #[zI m] 3):=λW hW=>u.o.next hW;have B:=zh ht.ts;have a1:=zh d.o;have a7:=d.o.size
 have a3:Hid (zC 32 #[.agg #[zI x.me,zI x.rv,zI x.nx,zI x.mo,zI x.bo,zI x.fr,.slice p len n],.func (.func 61) #[] #[.pointer (some ⟨w.heap.size+1,0,none⟩),.pointer (some ⟨w.heap.size+1+1,0,none⟩)]] f λe w'=>BPost f (GrantIs x t m) e w'):=by
  refine pwork 61 #[.pointer (some ⟨w.heap.size+1,0,none⟩),.pointer (some ⟨w.heap.size+1+1,0,none⟩)] (GrantIs x t m) x p len n f s.o (λh=> .inl ⟨.inl ⟨h,rfl⟩,rfl,rfl⟩) (λ_ _=>by kernel_rfl) ?_;intro hm W g p' j hB hg C a9
  have a2:deb.Fresh W (g+1) p' len j x.ds:=by
   obtain⟨a0,c0,hv,a8⟩:=deb.ld_fresh a9 hm.1;injection hv with h1 h2 h3
   rw[h1,h2,h3];exact a8
  have D:Far H lt g:=λq y r=>by have:=came_lt B.o q y r;omega
  exact pgrant1 _ _ g x p' len j t H lt ct m W (a6.o W hB) (a5.o W hB) C a2 hm (B.o.below (a1.o.trans (hB.mono a7))) ht.wf D
 clear ha ht;go_wp2_with refine zw ?_;refine a3.o.mono ?_;rintro e w1 ⟨b,l,G,F,E,fz,rfl,hi,hf,c⟩;obtain⟨M,P,O,ae,N⟩:=zn5 c I z u K J;have ad:=zh (s.o.below c);have L:=shB d c;have ac:=c.size;clear c;unfold Ac.v Ac.cs Bi.v;have k:=zh hf;have i:=zh (came_lt k.o.came);have HV:=zh hi;clear hf hi;go_wp2_with (first|refine zs ?_|refine zw ?_)
 intro W4 a;obtain⟨R,U,S,af⟩:=zk4 a M P O N;have T:=zyb a;have A:Hid (deb.Fresh W4 f.heap.size G F E b.ds):=fresh_updN k.o a (λq y r=>by have f1:=k.o.new q y r;have f2:=i.o q y r;omega);have Q:=zk a L;have aa:=a.size;clear a;go_wp2_with (first|refine zs ?_|refine zw ?_)
 intro W5 a;obtain⟨ag,ai,ah,Z⟩:=zk4 a R U S T;have Y:=zyb a;have X:Hid (deb.Fresh W5 f.heap.size G F E b.ds):=fresh_updN A.o a (λq y r=>by have f1:=A.o.new q y r;have f2:=i.o q y r;omega);have V:=zk a Q;have ab:=a.size;clear a;go_wp2_with fail;exact zr (.tuple #[.agg #[zI b.me,zI b.rv,zI b.nx,zI b.mo,zI b.bo,zI b.fr,.slice G F E],.agg #[zI l.id,zI l.te,zI l.de,zI l.fe,zI l.pr,zI l.ch,zI l.un],zI fz]) (by simp[results,Tryz.results30,scl7 Z,scl7 Y,go_sem]) ⟨b,l,G,F,E,fz,rfl,HV.o,X.o.low (by omega),V.o⟩
end acc
section
open Go.RowKit
variable{Q:Exit→Act→World→Prop}{K:Act→World→Prop}{P:Program}{o:Oper}{a:Act}
theorem wp_letOpN{w:World}(ty:TypeId)(x y:Operand)(ho:o.op=.store ty x y)
  (g off:Nat) (hx:a.eval x=.pointer (some ⟨g,off,none⟩)) (v:Value) (hy:a.eval y=v) (cells:Array Value) (hv:v.cells=cells) (hi:(P.info? ty).map (·.size)=some cells.size) (h1:cells.all (·.oneCell')=true)
  (cs:Array Value) (t:TypeId) (hB:Blk w g cs t) (hin:off+cells.size≤cs.size) (new:Array Value) (hnew:putAll cs off cells.toList=new) (hd:o.dst=none)
  (h:∀W,Upd w W g new t→K a W):o.wp P a w K Q:=by
 have c:=run_storeVar_let (P:=P) (w:=w) (g:=g) (off:=off) (ty:=ty) (t:=t) (v:=v) (cells:=cells) (cs:=cs) hv hi h1 hB hin;have b:=upd_cells g t cells.toList off w cs hB;rw[hnew] at b;unfold Oper.wp execOp;simp only[ho,hx,hy,Instr.storeAt,Instr.sureAddr,Sem.run_bind,Sem.run_pure,Result.andThen_ok,c];have:=h _ b;have e:a.put o.dst undef=a:=by rw[hd];rfl
 rw[← e] at this;exact this
theorem wp_callOpP{w:World}{f:FuncId}{args:Array Value}{R:Ending→World→Prop}(d:Nat)(hd:o.dst=some d)(hrun:(execOp a.eval o).run P w=.ok (.enter f args) w)(hc:Calls P f args w R)
  (h:∀e w',R e w'→(∃v,e=.returned v∧K (a.put (some d) v) w')∨∃c,e=.panicked c∧Q (.panic c) a w'):o.wp P a w K Q:=by
 rw[← hd] at h;unfold Oper.wp;rw[hrun,Oper.upon_enter];refine hc.mono λe w' g=>?_;rcases h e w' g with⟨v,rfl,b⟩|⟨c,rfl,b⟩
 ·exact b
 ·exact b
theorem wp_mapOp{w W:World}(ty:TypeId)(x y z:Operand)(ho:o.op=.mapUpdate ty x y z)(vx vy vz:Value)(hx:a.eval x=vx)(hy:a.eval y=vy)(hz:a.eval z=vz)
  (hr:(Instr.mapUpdate ty vx vy vz).run P w=.ok () W) (hd:o.dst=none) (h:K a W):o.wp P a w K Q:=by
 unfold Oper.wp execOp;simp only[ho,hx,hy,hz,Sem.run_bind,Sem.run_pure,Result.andThen_ok,hr];have e:a.put o.dst undef=a:=by rw[hd];rfl
 rw[← e] at h;exact h
end
end Go.Proofs.YtoepgdhiepedeaaGreatDoor
