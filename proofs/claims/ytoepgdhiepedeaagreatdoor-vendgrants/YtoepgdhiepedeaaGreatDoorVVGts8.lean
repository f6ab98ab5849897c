import Derived.Test.YtoepgdhiepedeaaGreatDoorVVGts6
set_option linter.unusedVariables false
set_option linter.unusedSimpArgs false
set_option maxHeartbeats 4000000
set_option maxRecDepth 100000
namespace Go.Proofs.YtoepgdhiepedeaaGreatDoor
namespace acc
open tar (Du du0 Came)
open Go.RowKit
def Ac.cs(x:Ac)(p:Option Addr)(len cap:Nat):Array Value:=#[zI x.me,zI x.rv,zI x.nx,zI x.mo,zI x.bo,zI x.fr,.slice p len cap]
def Ac.v(x:Ac)(p:Option Addr)(len cap:Nat):Value:=.agg (x.cs p len cap)
def Tm.v(t:Tm)(p:Option Addr)(len cap:Nat):Value:=.agg #[.slice p len cap,zI t.ff,zI t.fb,zI t.db,zI t.al]
def Bi.v(b:Bi):Value:=.agg #[zI b.id,zI b.te,zI b.de,zI b.fe,zI b.pr,zI b.ch,zI b.un]
def wf6(x:Ac):Prop:=(Lit.int .i64 x.me).wf=true∧(Lit.int .i64 x.rv).wf=true∧(Lit.int .i64 x.nx).wf=true∧(Lit.int .i64 x.mo).wf=true∧(Lit.int .i64 x.bo).wf=true∧(Lit.int .i64 x.fr).wf=true
def wf4(t:Tm):Prop:=(Lit.int .i64 t.ff).wf=true∧(Lit.int .i64 t.fb).wf=true∧(Lit.int .i64 t.db).wf=true∧(Lit.int .i64 t.al).wf=true
structure ACame (w:World) (x:Ac) (p:Option Addr) (len cap:Nat):Prop where
 ds:Came w p len cap x.ds
 wf:wf6 x
structure TCame (w:World) (t:Tm) (p:Option Addr) (len cap:Nat):Prop where
 ts:Came w p len cap t.ts
 wf:wf4 t
theorem ACame.below{w w':World}{x:Ac}{p:Option Addr}{len cap:Nat}(h:ACame w x p len cap)(hb:zB w w'):ACame w' x p len cap:=⟨h.ds.below hb,h.wf⟩
theorem TCame.below{w w':World}{t:Tm}{p:Option Addr}{len cap:Nat}(h:TCame w t p len cap)(hb:zB w w'):TCame w' t p len cap:=⟨h.ts.below hb,h.wf⟩
def APost(w:World)(R:Ac→Int→Prop)(e:Ending)(w':World):Prop:=∃b p len cap f,e=.returned (.tuple #[Ac.v b p len cap,zI f])∧R b f∧deb.Fresh w' w.heap.size p len cap b.ds∧zB w w'
def BPost(w:World)(R:Ac→Bi→Int→Prop)(e:Ending)(w':World):Prop:=∃b l p len cap f,e=.returned (.tuple #[Ac.v b p len cap,Bi.v l,zI f])∧R b l f∧deb.Fresh w' w.heap.size p len cap b.ds∧zB w w'
end acc
namespace deb
open tar (Du du0 Came RowD Ld ErrPost TwoPost PairT GaveD)
open Go.RowKit
theorem debtT:PairT Tryz.prog 42 53:=⟨by kernel_rfl,Tryz.underlying53⟩
theorem prod_le(a b A B:Int)(h1:0≤a)(h2:a≤A)(h3:0≤b)(h4:b≤B):0≤a*b∧a*b≤A*B:=
 ⟨Int.mul_nonneg h1 h3,Int.le_trans (Int.mul_le_mul_of_nonneg_left h4 h1) (Int.mul_le_mul_of_nonneg_right h2 (by omega))⟩
end deb
namespace tar
open Go.RowKit
theorem stepT:PairT Tryz.prog 214 22:=⟨by kernel_rfl,Tryz.underlying22⟩
theorem steps_any(a:Option Addr)(len cap:Nat)(zs:List Du)(w:World)(h:Came w a len cap zs):
  Calls Tryz.prog 19 #[.slice a len cap] w λe w'=>GaveD 214 w zs e w':=by
 obtain⟨d,q,-,p,-⟩:=h;cases a with
 |none=>
  have m:=q rfl;have l:len=0:=by rcases d.2 with h|⟨b,r,h,_⟩;exact h;cases h
  subst m l;obtain rfl:zs=[]:=List.eq_nil_of_length_eq_zero d.1;have f:∀w:World,(Builtin.append_ #[22,22] 22 #[zS,zS]).run Tryz.prog w=.ok (zS) w:=λw=>by kernel_rfl
  go_enter Tryz.func19,Tryz.ntmps19;go_wp2;go_ret;exact GaveD.mk (Ld.zero _ _ _) zb
 |some x=>
  go_enter Tryz.func19,Tryz.ntmps19
  go_wp2_with (first
   |(at_builtin;refine wp_pairs stepT rfl _ _ rfl w.heap.size x len cap zs rfl rfl d p zc ?_)
   | go_in)
  intro s w' c g;have j:Hid (Ld 214 w' w.heap.size s zs):=c;have i:Hid (zB w w'):=zb.grown g zc (λk n=>by cases n);clear c g;go_wp2;go_ret;exact GaveD.mk j.o i.o
end tar
namespace ora
open Go.RowKit
set_option maxRecDepth 100000
set_option maxHeartbeats 1000000 in
theorem oracles_any(a : Option Addr)(len cap : Nat)(l : List Pr)(w : World)(hr : RowP w a len l)(hn : a = none → cap = 0)(hl : len * 32 ≤ 140737488351232):
  Calls Tryz.prog 7 #[.agg #[.slice a len cap]] w λe w' => GaveO w l e w' := by
 obtain⟨i0, hi, hz0, hz1, hz2⟩ := info_parts info_pr
 have HX : Hid (Bi w ((w.alloc (.cells #[.slice a len cap] 28)).alloc (.cells #[.slice none 0 0] 28)) a len cap l) := ⟨(Bo.new hr).alloc _, Blk.new1 w _ _ _⟩
 have HZ : Hid (l.length = len) := hr.1
 have c0 := HX.out.bo.box.cell 0
 cases a with
 |none =>
  have hc := hn rfl
  have h0 : len = 0 := by rcases hr.2 with h|⟨b, off, h, _⟩; exact h; cases h
  subst hc h0
  obtain rfl : l = [] := List.eq_nil_of_length_eq_zero HZ.out
  have happ : ∀w : World, (Builtin.append_ #[26, 26] 26 #[.slice none 0 0, .slice none 0 0]).run Tryz.prog w=.ok (.slice none 0 0) w := λw => by kernel_rfl
  have R0 : Hid (_ = _) := HX.out.out.cell 0
  clear hr
  go_enter Tryz.func7, Tryz.ntmps7
  go_wp2_with fail
  exact bodyPost_ret (v :=.agg #[.slice none 0 0]) (by simp[results, Tryz.results7, R0.out, go_sem]) rfl ⟨_, rfl, Pw.zero _ _, HX.out.bo.bel⟩
 |some x =>
  have HR : Hid (RowP ((w.alloc (.cells #[.slice (some x) len cap] 28)).alloc (.cells #[.slice none 0 0] 28)) (some x) len l) := HX.out.bo.row
  have HSZ : Hid (w.heap.size + 2 ≤ ((w.alloc (.cells #[.slice (some x) len cap] 28)).alloc (.cells #[.slice none 0 0] 28)).heap.size) := HX.out.out.lt
  clear hr
  go_enter Tryz.func7, Tryz.ntmps7
  go_wp2_with (first
   |(at_builtin; refine wpList_append_own _ rfl _ _ 26 rfl (w.heap.size + 2) 87 i0 (.agg #[.int .i64 0, .int .i64 0, .int .i64 0, .int .i64 0]) 4 32 Tryz.underlying26 hi hz0 hz1 hz2 rfl (by decide) _ _ _ rfl (World.ownsRow_nil _ _ _ _) x len cap (cellsP l) rfl ?c0 ?c1 (oneP l) ?c3 ?c4 HSZ.out ?_)
   | go_in)
  case c0 => rw[cellsP_len, HZ.out]
  case c1 =>
   intro j u hu
   rcases HR.out.2 with h|⟨b, off, h, hc⟩
   ·rw[List.getElem?_eq_none (by rw[cellsP_len, HZ.out]; omega)] at hu; cases hu
   ·obtain rfl := Option.some.inj h
    rw[Addr.add_lit]
    exact cellsP_get HZ.out hc j u hu
  case c3 => unfold maxLen; omega
  case c4 => omega
  intro v' w' hown hg _
  have HW : Hid (Pw w' (w.heap.size + 2) v' l) := by show w'.ownsRow _ _ _ _ _ _; rw[HZ.out]; simpa using hown
  have hb' : zB w w' := HX.out.bo.bel.grown hg (by have := HSZ.out; omega) (λk hk => by simp[Value.ownBlock] at hk)
  have hout := Blk.pgrown HX.out.out hg (by simp[Value.ownBlock])
  have z0 := hout.cell 0
  have y0 := hout.free 0
  have HXX := hout.set 0 v'
  have R0 : Hid (_ = _) := HXX.cell 0
  have HF : Hid (Pw (w'.setCell ⟨w.heap.size + 1, 0, none⟩ v') w.heap.size v' l ∧ zB w (w'.setCell ⟨w.heap.size + 1, 0, none⟩ v')) := ⟨(HW.out.put _ _ _ (by omega)).low (by omega), bel_set hb' _ _ _ (by omega)⟩
  obtain⟨av, cv, hV, _, _, _⟩ := HW.out.row
  clear hown hg hb' hout c0
  subst hV
  go_wp2_with fail
  exact bodyPost_ret (v :=.agg #[.slice av l.length cv]) (by simp[results, Tryz.results7, R0.out, go_sem]) rfl ⟨_, rfl, HF.out.1, HF.out.2⟩
theorem peq(d : Nat)(a b : Int)(w : World): (Op.equalIn (d + 1) 3 (.int .i64 a) (.int .i64 b)).run Tryz.prog w=.ok (a==b) w := run_equalIn_int w d _ _ _ a b Tryz.underlying3
theorem pt0(a b c e : Int)(w : World): (part 3 #[.int .i64 a, .int .i64 b, .int .i64 c, .int .i64 e] 0).run Tryz.prog w=.ok (.int .i64 a) w := by kernel_rfl
theorem pt1(a b c e : Int)(w : World): (part 3 #[.int .i64 a, .int .i64 b, .int .i64 c, .int .i64 e] 1).run Tryz.prog w=.ok (.int .i64 b) w := by kernel_rfl
theorem pt2(a b c e : Int)(w : World): (part 3 #[.int .i64 a, .int .i64 b, .int .i64 c, .int .i64 e] 2).run Tryz.prog w=.ok (.int .i64 c) w := by kernel_rfl
theorem pt3(a b c e : Int)(w : World): (part 3 #[.int .i64 a, .int .i64 b, .int .i64 c, .int .i64 e] 3).run Tryz.prog w=.ok (.int .i64 e) w := by kernel_rfl
theorem eqPr(a b c e : Int)(w : World):
  (Op.equalIn 10000 87 (.agg #[.int .i64 a, .int .i64 b, .int .i64 c, .int .i64 e]) (.agg #[.int .i64 a, .int .i64 b, .int .i64 c, .int .i64 e])).run Tryz.prog w=.ok true w := by
 rw[show (10000 : Nat) = 9999 + 1 from rfl, run_equalIn_agg w 9999 87 _ _ (by kernel_rfl) (by kernel_rfl)]
 simp only[Program.fieldsOf, Tryz.underlying87, Op.eqFields, Sem.run_bind, Sem.run_ite]
 simp[pt0, pt1, pt2, pt3, show (9999 : Nat) = 9998 + 1 from rfl, peq]
set_option maxHeartbeats 2000000 in
theorem same_any(a b : Option Addr)(n c1 c2 : Nat)(l : List Pr)(w : World)(h1 : RowP w a n l)(h2 : RowP w b n l)(hn : n * 32 ≤ 140737488351232):
  Calls Tryz.prog 12 #[.agg #[.slice a n c1], .agg #[.slice b n c2]] w λe w' => e=.returned (.bool true) ∧ zB w w' := by
 have hne : ((n : Int) != (n : Int)) = false := by simp
 have hn' : n ≤ 140737488351232 := by omega
 clear hn
 have HB0 : Hid (Blk ((w.alloc (.cells #[.slice a n c1] 28)).alloc (.cells #[.slice b n c2] 28)) w.heap.size #[.slice a n c1] 28 ∧ Blk ((w.alloc (.cells #[.slice a n c1] 28)).alloc (.cells #[.slice b n c2] 28)) (w.heap.size + 1) #[.slice b n c2] 28 ∧ zB w ((w.alloc (.cells #[.slice a n c1] 28)).alloc (.cells #[.slice b n c2] 28))) :=
  ⟨(Blk.new w _ _).alloc _, Blk.new1 w _ _ _, (zb.alloc zc _).alloc (palloc_le zc _) _⟩
 have HR : Hid (RowP w a n l ∧ RowP w b n l) := ⟨h1, h2⟩
 clear h1 h2
 have c0 := HB0.out.1.cell 0
 have e0 := HB0.out.2.1.cell 0
 go_enter Tryz.func12, Tryz.ntmps12
 go_wp2_with fail
 clear c0 e0
 generalize (w.alloc (.cells #[.slice a n c1] 28)).alloc (.cells #[.slice b n c2] 28) = W0 at *
 go_loopw [5] (λj wr => ∃k : Nat, k ≤ n ∧ j=.int .i64 (k : Int) ∧ Blk wr w.heap.size #[.slice a n c1] 28 ∧ Blk wr (w.heap.size + 1) #[.slice b n c2] 28 ∧ zB w wr) (λj _ => n-(intOf j).toNat)
 case atStart => exact⟨0, Nat.zero_le _, rfl, HB0.out⟩
 case round =>
  obtain⟨k, hk, rfl, hx⟩ := hrel
  have HI : Hid (Blk wr w.heap.size #[.slice a n c1] 28 ∧ Blk wr (w.heap.size + 1) #[.slice b n c2] 28 ∧ zB w wr) := hx
  clear hx
  have c0 := HI.out.1.cell 0
  have e0 := HI.out.2.1.cell 0
  by_cases hlt : k<n
  ·obtain⟨b1, o1, rfl, _, hc1⟩ := (HR.out.1.below HI.out.2.2).at (by omega)
   obtain⟨b2, o2, rfl, _, hc2⟩ := (HR.out.2.below HI.out.2.2).at (by omega)
   obtain⟨f0, f1, f2, f3⟩ := hc1 k hlt
   obtain⟨g0, g1, g2, g3⟩ := hc2 k hlt
   have hq := eqPr (l.getD k pr0).m (l.getD k pr0).r (l.getD k pr0).b (l.getD k pr0).t
   clear hc1 hc2
   generalize (l.getD k pr0).m = pm at *
   generalize (l.getD k pr0).r = prr at *
   generalize (l.getD k pr0).b = pb at *
   generalize (l.getD k pr0).t = pt at *
   go_wp2_with fail
   go_region
   all_goals go_wp2_with fail
   go_roundw
   case rel => exact⟨k + 1, by omega, by go_num, HI.out.1, HI.out.2.1, HI.out.2.2.drew⟩
   case measure => simp[intOf]; omega
  ·go_wp2_with fail
   go_ret
   exact⟨rfl, HI.out.2.2⟩
theorem oracles_row(a : Option Addr)(n cap : Nat)(l : List Pr)(w : World)(h : Came w a n cap l):
  Calls Tryz.prog 7 #[.agg #[.slice a n cap]] w λe w' => Copied w n l e w' :=
 (oracles_any a n cap l w h.row h.nil h.small).mono λe w' ⟨v, he, hv, hb⟩ => by
  obtain⟨x, c, rfl, d, f, b⟩ := hv.row
  rw[h.row.1] at he d b
  exact⟨x, c, he, ⟨d, f, b, h.small⟩, hb⟩
end ora
namespace words
open Go.RowKit
abbrev Wat(w:World)(G:Nat)(x:W3):Prop:=Trio w G (.int .u32 x.a) (.int .u32 x.b) (.int .u32 x.c)
variable{y0 y1 y2:Value}{G:Nat}
theorem Trio.lt{w:World}(h:Trio w G y0 y1 y2):G<w.heap.size:=by
 by_cases a:G<w.heap.size
 ·exact a
 ·unfold Trio at h;rw[Array.getElem?_eq_none (by omega)] at h;cases h
theorem Trio.below{w w':World}(h:Trio w G y0 y1 y2)(hb:zB w w'):Trio w' G y0 y1 y2:=by
 have a:=h.lt;unfold Trio at *;rw[hb.block G a];exact h
abbrev put3(w:World)(G:Nat)(a b c:Value):World:=((w.setCell ⟨G,0,none⟩ a).setCell ⟨G,1,none⟩ b).setCell ⟨G,2,none⟩ c
theorem Trio.put{w:World}(h:Trio w G y0 y1 y2)(a b c:Value):Trio (put3 w G a b c) G a b c:=((h.set0 a).set1 b).set2 c
theorem below_put3{B:Nat}{w w':World}(h:Below B w w')(G:Nat)(u v x:Value)(hG:B≤G):Below B w (put3 w' G u v x):=below_set (below_set (below_set h G 0 u hG) G 1 v hG) G 2 x hG
theorem agg_ne{x y:W3}(h:x≠y):¬ (x.a=y.a∧x.b=y.b∧x.c=y.c):=λ⟨h1,h2,h3⟩=>h (by cases x;cases y;simp_all)
end words
namespace acc
open tar (Du du0 Came RowD Ld PairT)
open Go.RowKit
theorem awithin(lo hi n:Int)(w:World):Calls Tryz.prog 66 #[zI lo,zI hi,zI n] w λe w'=>e=.returned (.bool (decide (lo≤n∧n≤hi)))∧w'=w:=by
 by_cases b:lo≤n
 ·by_cases c:n≤hi
  ·have a:decide (lo≤n∧n≤hi)=true:=by simp;omega
   rw[a];clear a;go_enter Tryz.func66,Tryz.ntmps66;go_wp2;go_ret;exact⟨rfl,rfl⟩
  ·have a:decide (lo≤n∧n≤hi)=false:=by simp;omega
   have d:decide (n≤hi)=false:=by simp;omega
   rw[a];clear a c;go_enter Tryz.func66,Tryz.ntmps66;go_wp2;go_ret;exact⟨rfl,rfl⟩
 ·have a:decide (lo≤n∧n≤hi)=false:=by simp;omega
  have d:decide (lo≤n)=false:=by simp;omega
  rw[a];clear a b;go_enter Tryz.func66,Tryz.ntmps66;go_wp2;go_ret;exact⟨rfl,rfl⟩
end acc
namespace deb
open tar (Du du0 Came RowD Ld ErrPost TwoPost PairT GaveD)
open Go.RowKit
theorem dwithin(lo hi n:Int)(w:World):Calls Tryz.prog 145 #[zI lo,zI hi,zI n] w λe w'=>e=.returned (.bool (decide (lo≤n∧n≤hi)))∧w'=w:=by
 by_cases b:lo≤n
 ·by_cases c:n≤hi
  ·have a:decide (lo≤n∧n≤hi)=true:=by simp;omega
   rw[a];clear a;go_enter Tryz.func145,Tryz.ntmps145;go_wp2;go_ret;exact⟨rfl,rfl⟩
  ·have a:decide (lo≤n∧n≤hi)=false:=by simp;omega
   have d:decide (n≤hi)=false:=by simp;omega
   rw[a];clear a c;go_enter Tryz.func145,Tryz.ntmps145;go_wp2;go_ret;exact⟨rfl,rfl⟩
 ·have a:decide (lo≤n∧n≤hi)=false:=by simp;omega
  have d:decide (lo≤n)=false:=by simp;omega
  rw[a];clear a b;go_enter Tryz.func145,Tryz.ntmps145;go_wp2;go_ret;exact⟨rfl,rfl⟩
theorem pcheck(a:Option Addr)(n cap:Nat)(ls:List Du)(w:World)(hr:RowD w a n ls)(hn:n≤maxLen):Calls Tryz.prog 142 #[.slice a n cap] w λe w'=>∃f,e=.returned (zI f)∧FaultIs ls f∧zB w w':=by
 have c:=hr.1;have J:Hid (∀x W,zC 145 #[zI 0,zI 1000000000,zI x] W λe w'=>e=.returned (.bool (decide (0≤x∧x≤1000000000)))∧w'=W):=λx W=>dwithin 0 1000000000 x W;have I:Hid (∀x W,zC 145 #[zI 0,zI 10000,zI x] W λe w'=>e=.returned (.bool (decide (0≤x∧x≤10000)))∧w'=W):=λx W=>dwithin 0 10000 x W;have R:n≤9223372036854775807:=by unfold maxLen at hn;omega
 by_cases O:n≤8
 ·have B:Hid (ls.length≤8):=by show _≤_;rw[c];exact O
  have M:decide (8<(n:Int))=false:=decide_eq_false (by omega);have A:Hid (RowD w a n ls):=hr;have d:Hid (ls.length=n):=c;clear hr hn c;go_enter Tryz.func142,Tryz.ntmps142;go_wp2_with fail;go_loopw [10] (λx wr=>∃k:Nat,k≤n∧x=zI (k:Int)∧(∀i,i<k→Ok1 (ls.getD i du0))∧zB w wr) (λx _=>n-(intOf x).toNat)
  case atStart=>exact⟨0,Nat.zero_le _,rfl,λi E=>absurd E (Nat.not_lt_zero _),zb⟩
  case round=>
   obtain⟨k,S,rfl,hf,t⟩:=hrel;have P:Hid (∀i,i<k→Ok1 (ls.getD i du0)):=hf;have Q:Hid (zB w wr):=t;clear hf;by_cases j:k<n
   ·have N:decide ((k:Int)<(n:Int))=true:=by simp;omega
    obtain⟨b,m,rfl,D,L⟩:=A.o.at (by omega);have c0:wr.cell? ⟨b,m+k*2,none⟩=some (zI (ls.getD k du0).a):=(t.cell (p:=⟨b,m+k*2,none⟩) D).trans (L k j).1;have c1:wr.cell? ⟨b,m+k*2+1,none⟩=some (zI (ls.getD k du0).b):=(t.cell (p:=⟨b,m+k*2+1,none⟩) D).trans (L k j).2;have r:Hid (∀o,zB w (wr.alloc o)):=λo=>t.alloc t.size o;clear t L;have C:=J.o (ls.getD k du0).a;have F:=I.o (ls.getD k du0).b;by_cases u:0≤(ls.getD k du0).a∧(ls.getD k du0).a≤1000000000
    ·rw[decide_eq_true u] at C;by_cases z:0≤(ls.getD k du0).b∧(ls.getD k du0).b≤10000
     ·
      rw[decide_eq_true z] at F
      have G:Hid (∀i,i<k+1→Ok1 (ls.getD i du0)):=λi E=>by
       by_cases e:i=k
       ·subst e;exact⟨u,z⟩
       ·exact P.o i (by omega)
      have g:Hid (∀W,zC 145 #[zI 0,zI 1000000000,zI (ls.getD k du0).a] W λe w'=>e=.returned (.bool true)∧w'=W):=C;have s:Hid (∀W,zC 145 #[zI 0,zI 10000,zI (ls.getD k du0).b] W λe w'=>e=.returned (.bool true)∧w'=W):=F;clear u z;generalize (ls.getD k du0).a=x at *;generalize (ls.getD k du0).b=y at *;go_wp2_with fail;refine(g.o _).mono ?_;rintro e q ⟨rfl,l⟩;subst q;go_wp2_with fail;refine(s.o _).mono ?_;rintro e q ⟨rfl,l⟩;subst q;go_wp2_with fail;go_roundw
      case rel=>exact⟨k+1,by omega,by go_num,G.o,r.o _⟩
      case measure=>simp[intOf];omega
     ·
      rw[decide_eq_false z] at F;have K:Hid (¬ DFits ls):=λh=>z (h k (by rw[d.o];exact j)).2;have g:Hid (∀W,zC 145 #[zI 0,zI 1000000000,zI (ls.getD k du0).a] W λe w'=>e=.returned (.bool true)∧w'=W):=C;have s:Hid (∀W,zC 145 #[zI 0,zI 10000,zI (ls.getD k du0).b] W λe w'=>e=.returned (.bool false)∧w'=W):=F;clear u z;generalize (ls.getD k du0).a=x at *;generalize (ls.getD k du0).b=y at *;go_wp2_with fail;refine(g.o _).mono ?_;rintro e q ⟨rfl,l⟩;subst q;go_wp2_with fail;refine(s.o _).mono ?_;rintro e q ⟨rfl,l⟩;subst q;go_wp2_with fail;go_ret;exact⟨_,rfl,.inr (.inl ⟨B.o,K.o,rfl⟩),r.o _⟩
    ·
     rw[decide_eq_false u] at C;have K:Hid (¬ DFits ls):=λh=>u (h k (by rw[d.o];exact j)).1;have g:Hid (∀W,zC 145 #[zI 0,zI 1000000000,zI (ls.getD k du0).a] W λe w'=>e=.returned (.bool false)∧w'=W):=C;clear u;generalize (ls.getD k du0).a=x at *;generalize (ls.getD k du0).b=y at *;go_wp2_with fail;refine(g.o _).mono ?_;rintro e q ⟨rfl,l⟩;subst q;go_wp2_with fail;go_ret;exact⟨_,rfl,.inr (.inl ⟨B.o,K.o,rfl⟩),r.o _⟩
   ·obtain rfl:k=n:=by omega
    have N:decide ((k:Int)<(k:Int))=false:=by simp
    have H:Hid (DFits ls):=λi E=>P.o i (by rw[d.o] at E;exact E);clear t;go_wp2_with fail;go_ret;exact⟨_,rfl,.inr (.inr ⟨⟨B.o,H.o⟩,rfl⟩),Q.o⟩
 ·have B:Hid (¬ ls.length≤8):=by show ¬ _≤_;rw[c];exact O
  have M:decide (8<(n:Int))=true:=decide_eq_true (by omega);clear O hr c hn;go_enter Tryz.func142,Tryz.ntmps142;go_wp2_with fail;go_ret;exact⟨_,rfl,.inl ⟨B.o,rfl⟩,zb⟩
end deb
namespace acc
open tar (Du)
open Go.RowKit
def KcCheck:Prop:=∀(W:World)(t:Tm)(pt:Option Addr)(lt ct:Nat),TCame W t pt lt ct→zC 97 #[t.v pt lt ct] W λe w'=>tar.ErrPost W (TFault t) e w'
end acc
namespace tar
open Go.RowKit
theorem pwithin(lo hi n:Int)(w:World):Calls Tryz.prog 102 #[zI lo,zI hi,zI n] w λe w'=>e=.returned (.bool (decide (lo≤n∧n≤hi)))∧w'=w:=by
 by_cases b:lo≤n
 ·by_cases c:n≤hi
  ·have a:decide (lo≤n∧n≤hi)=true:=by simp;omega
   rw[a];clear a;go_enter Tryz.func102,Tryz.ntmps102;go_wp2;go_ret;exact⟨rfl,rfl⟩
  ·have a:decide (lo≤n∧n≤hi)=false:=by simp;omega
   have d:decide (n≤hi)=false:=by simp;omega
   rw[a];clear a c;go_enter Tryz.func102,Tryz.ntmps102;go_wp2;go_ret;exact⟨rfl,rfl⟩
 ·have a:decide (lo≤n∧n≤hi)=false:=by simp;omega
  have d:decide (lo≤n)=false:=by simp;omega
  rw[a];clear a b;go_enter Tryz.func102,Tryz.ntmps102;go_wp2;go_ret;exact⟨rfl,rfl⟩
open Classical in
theorem prises(b off k cap:Nat)(ls:List Du)(w1:World)(hs1:1≤k)(hs2:k≤8)(hlen:ls.length=k)(hbl:b<w1.heap.size)(hc:∀i,i<k→w1.cell? ⟨b,off+i*2,none⟩=some (zI (ls.getD i du0).a)∧w1.cell? ⟨b,off+i*2+1,none⟩=some (zI (ls.getD i du0).b)):Calls Tryz.prog 146 #[.slice (some ⟨b,off,none⟩) k cap] w1 λe w'=>e=.returned (.bool (decide (Rises ls)))∧zB w1 w':=by
 have HC:Hid (∀i,i<k→w1.cell? ⟨b,off+i*2,none⟩=some (zI (ls.getD i du0).a)∧w1.cell? ⟨b,off+i*2+1,none⟩=some (zI (ls.getD i du0).b)):=hc;have HLEN:Hid (ls.length=k):=hlen;have hnm:k≤9223372036854775807:=by omega
 clear hc hlen;go_enter Tryz.func146,Tryz.ntmps146;go_wp2_with fail;go_loopw [3] (λx wr2=>∃j:Nat,1≤j∧j≤k∧x=zI (j:Int)∧(∀i,1≤i→i<j→(ls.getD (i-1) du0).a<(ls.getD i du0).a)∧zB w1 wr2) (λx _=>k-(intOf x).toNat)
 case atStart=>exact⟨1,zc,hs1,rfl,λi h1 h2=>absurd h2 (by omega),zb⟩
 case round=>
  obtain⟨j,hj1,hj,rfl,hf,hb⟩:=hrel;have HF:Hid (∀i,1≤i→i<j→(ls.getD (i-1) du0).a<(ls.getD i du0).a):=hf;have HB:Hid (zB w1 wr):=hb;by_cases hlt2:j<k
  ·have hdl2:decide ((j:Int)<(k:Int))=true:=by simp;omega
   have c0:wr.cell? ⟨b,off+j*2,none⟩=some (zI (ls.getD j du0).a):=(hb.cell (p:=⟨b,off+j*2,none⟩) hbl).trans (HC.o j hlt2).1;have c1:wr.cell? ⟨b,off+(j-1)*2,none⟩=some (zI (ls.getD (j-1) du0).a):=(hb.cell (p:=⟨b,off+(j-1)*2,none⟩) hbl).trans (HC.o (j-1) (by omega)).1;have hs2':wr.drew.cell? ⟨b,off+j*2,none⟩=some (zI (ls.getD j du0).a):=c0;have HBD:Hid (zB w1 wr.drew):=hb.drew;have hsub:((j:Int)-1)=((j-1:Nat):Int):=by omega
   have hjm:j-1<k:=by omega
   clear hb hf;by_cases hle:(ls.getD j du0).a≤(ls.getD (j-1) du0).a
   ·have hde:decide ((ls.getD j du0).a≤(ls.getD (j-1) du0).a)=true:=decide_eq_true hle
    have HN:Hid (decide (Rises ls)=false):=decide_eq_false λh=>by
     have:=h j hj1 (by rw[HLEN.o];exact hlt2);omega
    clear hle;generalize (ls.getD j du0).a=x at *;generalize (ls.getD (j-1) du0).a=y at *;generalize j-1=j1 at *;go_wp2_with fail;go_region
    all_goals go_wp2_with fail
    go_ret;exact⟨by rw[HN.o];rfl,HBD.o⟩
   ·have hde:decide ((ls.getD j du0).a≤(ls.getD (j-1) du0).a)=false:=decide_eq_false hle
    have HF2:Hid (∀i,1≤i→i<j+1→(ls.getD (i-1) du0).a<(ls.getD i du0).a):=λi h1 h2=>by
     by_cases e:i=j
     ·subst e;omega
     ·exact HF.o i h1 (by omega)
    clear hle;generalize (ls.getD j du0).a=x at *;generalize (ls.getD (j-1) du0).a=y at *;generalize j-1=j1 at *;go_wp2_with fail;go_region
    all_goals go_wp2_with fail
    go_roundw
    case rel=>exact⟨j+1,by omega,by omega,by go_num,HF2.o,HBD.o⟩
    case measure=>simp[intOf];omega
  ·obtain rfl:j=k:=by omega
   have hdl2:decide ((j:Int)<(j:Int))=false:=by simp
   have HR:Hid (decide (Rises ls)=true):=decide_eq_true λi h1 h2=>HF.o i h1 (by rw[HLEN.o] at h2;exact h2);clear hb hf;go_wp2_with fail;go_ret;exact⟨by rw[HR.o];rfl,HB.o⟩
end tar
namespace deb
open tar (Du du0 Came RowD Ld ErrPost TwoPost PairT GaveD)
open Go.RowKit
theorem powed(a:Option Addr)(len cap:Nat)(ls:List Du)(w:World)(hr:RowD w a len ls)(hm:Mays ls):Calls Tryz.prog 143 #[.slice a len cap] w λe w'=>e=.returned (zI (sumD ls))∧zB w w':=by
 have c:Hid (ls.length=len):=hr.1;have n:Hid (Mays ls):=hm;have A:len≤8:=by have:=hm.1;have:=hr.1;omega
 have h:Hid (RowD w a len ls):=hr;clear hm hr;go_enter Tryz.func143,Tryz.ntmps143;go_wp2_with fail;go_loopw [3,8] (λv x wr=>∃k:Nat,k≤len∧x=zI (k:Int)∧v=zI (sumK ls k)∧zB w wr) (λ_ x _=>len-(intOf x).toNat)
 case atStart=>exact⟨0,Nat.zero_le _,rfl,rfl,zb⟩
 case round=>
  obtain⟨k,u,rfl,rfl,f⟩:=hrel;have B:=sumK_bd n.o k (by rw[c.o];exact u);have q:Hid (zB w wr):=f;by_cases g:k<len
  ·have m:decide ((k:Int)<(len:Int))=true:=by simp;omega
   obtain⟨b,d,rfl,i,l⟩:=h.o.at (by omega);have c0:wr.cell? ⟨b,d+k*2,none⟩=some (zI (ls.getD k du0).a):=(f.cell (p:=⟨b,d+k*2,none⟩) i).trans (l k g).1;have c1:wr.cell? ⟨b,d+k*2+1,none⟩=some (zI (ls.getD k du0).b):=(f.cell (p:=⟨b,d+k*2+1,none⟩) i).trans (l k g).2;have j:Hid (∀o,zB w (wr.alloc o)):=λo=>f.alloc f.size o;have C:=(n.o.2 k (by rw[c.o];exact g)).1;have r:Hid (sumK ls k+(ls.getD k du0).a=sumK ls (k+1)):=(sumK_next ls k).symm;clear l f;generalize sumK ls k=s at *;generalize (ls.getD k du0).a=x at *;generalize (ls.getD k du0).b=y at *;go_wp2_with fail;go_roundw
   case rel=>exact⟨k+1,by omega,by go_num,by rw[← r.o],j.o _⟩
   case measure=>simp[intOf];omega
  ·obtain rfl:k=len:=by omega
   have m:decide ((k:Int)<(k:Int))=false:=by simp
   have t:Hid (sumK ls k=sumD ls):=by have:=sumK_all ls;rw[c.o] at this;exact this
   generalize sumK ls k=s at *;clear f;go_wp2_with fail;go_ret;exact⟨congrArg (λz=>Ending.returned (Value.int .i64 z)) t.o,q.o⟩
end deb
namespace acc
open tar (Du)
open Go.RowKit
def KcRekey:Prop:=∀(W:World)(x:Ac)(p:Option Addr)(len cap:Nat),ACame W x p len cap→zC 31 #[x.v p len cap] W λe w'=>BPost W (RekeyIs x) e w'
end acc
namespace words
def nv:List Nat→Nat
 |[]=>0
 |x::l=>x+4294967296*nv l
def digF:Nat→Nat→List Nat
 |0,_=>[]
 |k+1,m=>if m=0 then [] else (m%4294967296)::digF k (m/4294967296)
def dig(m:Nat):List Nat:=digF m m
theorem digF_same:∀(k j m:Nat),m≤k→m≤j→digF k m=digF j m:=by
 intro k
 induction k with
 |zero=>
  intro j m b c;have:m=0:=by omega
  subst this;cases j with
  |zero=>rfl
  |succ j=>simp[digF]
 |succ k ih=>
  intro j m b c;by_cases a:m=0
  ·subst a;cases j with
   |zero=>simp[digF]
   |succ j=>simp[digF]
  ·obtain⟨j',rfl⟩:∃j',j=j'+1:=⟨j-1,by omega⟩
   rw[digF,digF,if_neg a,if_neg a,ih j' (m/4294967296) (by omega) (by omega)]
theorem dig_zero:dig 0=[]:=rfl
theorem dig_pos{m:Nat}(h:m≠0):dig m=(m%4294967296)::dig (m/4294967296):=by
 obtain⟨k,rfl⟩:∃k,m=k+1:=⟨m-1,by omega⟩
 unfold dig;rw[digF,if_neg h,digF_same k _ _ (by omega) zc]
theorem nv_dig(m:Nat):nv (dig m)=m:=by
 induction m using Nat.strongRecOn with
 |_ m ih=>
  by_cases h:m=0
  ·subst h;rw[dig_zero];rfl
  ·rw[dig_pos h,nv,ih (m/4294967296) (by omega)];omega
theorem dig_lt(m:Nat):∀x∈dig m,x<4294967296:=by
 induction m using Nat.strongRecOn with
 |_ m ih=>
  by_cases h:m=0
  ·subst h;rw[dig_zero];intro x a;cases a
  ·rw[dig_pos h];intro x a;rcases List.mem_cons.1 a with rfl|a
   ·omega
   ·exact ih (m/4294967296) (by omega) x a
theorem dig_nil{m:Nat}(h:dig m=[]):m=0:=by
 by_cases a:m=0
 ·exact a
 ·rw[dig_pos a] at h;cases h
theorem getD_cons_succ(x:Nat)(r:List Nat)(i:Nat):(x::r).getD (i+1) 0=r.getD i 0:=by simp[List.getD]
theorem trim_dig:∀(l:List Nat)(n:Nat),(∀x∈l,x<4294967296)→n≤l.length→(∀i,n≤i→i<l.length→l.getD i 0=0)→(n=0∨l.getD (n-1) 0≠0)→l.take n=dig (nv l)
 |[],n,_,hn,_,_=>by
  have:n=0:=by simpa using hn
  subst this;rw[nv,dig_zero];rfl
 |x::r,0,hlt,_,hz,_=>by
  have g:x=0:=by simpa using hz 0 zc (by simp)
  have a:=trim_dig r 0 (fun y f=>hlt y (List.mem_cons_of_mem _ f)) (Nat.zero_le _) (fun i _ m=>by
   have:=hz (i+1) (Nat.zero_le _) (by simp;omega)
   rwa [getD_cons_succ] at this) (.inl rfl)
  have b:nv r=0:=dig_nil (by rw[← a];rfl);rw[nv,g,b,dig_zero];rfl
 |x::r,k+1,hlt,hn,hz,hne=>by
  have g:=hlt x (List.mem_cons_self ..)
  have a:=trim_dig r k (fun y f=>hlt y (List.mem_cons_of_mem _ f)) (by simp at hn;omega) (fun i m o=>by
   have:=hz (i+1) (by omega) (by simp;omega)
   rwa [getD_cons_succ] at this) (by
   by_cases c:k=0
   ·exact .inl c
   ·right;rcases hne with h|h
    ·omega
    ·have e:k+1-1=(k-1)+1:=by omega
     rw[e,getD_cons_succ] at h
     exact h)
  have d:nv (x::r)≠0:=by
   intro b;rw[nv] at b;rcases hne with h|h
   ·omega
   ·by_cases c:k=0
    ·subst c;simp at h;omega
    ·have j:nv r=0:=by omega
     rw[j,dig_zero] at a
     have p:r.length=0∨k=0:=by
      have:=congrArg List.length a;simp only[List.length_take,List.length_nil] at this;omega
     simp at hn;omega
  rw[List.take_succ_cons,a,dig_pos d]
  congr 1
  ·rw[nv];omega
  ·congr 1;rw[nv];omega
theorem dig_len{m:Nat}:∀k:Nat,m<4294967296^k→(dig m).length≤k:=by
 intro k
 induction k generalizing m with
 |zero=>
  intro h;have:m=0:=by simpa using h
  subst this;rw[dig_zero];simp
 |succ k ih=>
  intro h;by_cases a:m=0
  ·subst a;rw[dig_zero];simp
  ·rw[dig_pos a];have:=ih (m:=m/4294967296) (by rw[Nat.pow_succ] at h;exact Nat.div_lt_of_lt_mul (by rw[Nat.mul_comm];exact h));simp;omega
end words
end Go.Proofs.YtoepgdhiepedeaaGreatDoor
