import Derived.Test.YtoepgdhiepedeaaGreatDoorVVRys5
import Derived.Test.YtoepgdhiepedeaaGreatDoorVVRys7
set_option linter.unusedVariables false
set_option linter.unusedSimpArgs false
set_option maxHeartbeats 4000000
set_option maxRecDepth 100000
namespace Go.Proofs.YtoepgdhiepedeaaGreatDoor
namespace cell
open Go.RowKit
def arr(zs:List Int):Array Value:=(zs.map (Value.int .u32)).toArray
theorem arr_set(zs:List Int)(i:Nat)(v:Int):(arr zs).setIfInBounds i (.int .u32 v)=arr (zs.set i v):=by
 unfold arr;apply Array.ext';simp[List.map_set]
theorem Blk.rowU{w:World}{G n:Nat}{zs:List Int}{t:TypeId}(h:Blk w G (arr zs) t)(hn:zs.length=n):RowU w (some ⟨G,0,none⟩) n zs:=by
 refine⟨hn,.inr ⟨G,0,rfl,λi a=>?_⟩⟩;rw[Nat.zero_add,h.cell i];unfold arr;simp[List.getD,show i<zs.length by omega]
theorem Blk.word{w:World}{G:Nat}{zs:List Int}{t:TypeId}(h:Blk w G (arr zs) t)(i:Nat)(hi:i<zs.length):w.cell? ⟨G,i,none⟩=some (.int .u32 (zs.getD i 0)):=by
 rw[h.cell i];unfold arr;simp[List.getD,hi]
theorem made_zero(n:Nat):madeCells (Value.int .u32 0).cells (n*1)=arr (List.replicate n 0):=by
 unfold madeCells arr;apply Array.ext';simp[Value.cells];apply List.ext_getElem
 ·simp
 ·intro i a b;simp[Nat.mod_one]
theorem make_u32(n:Nat)(h:n≤100000)(w:World):(Instr.makeSlice 25 (zI (n:Int)) (zI (n:Int))).run Tryz.prog w=.ok (.slice (some ⟨w.heap.size,0,none⟩) n n) (w.alloc (.cells (arr (List.replicate n 0)) 83)):=by
 obtain⟨e,d,a,b,c⟩:=info_parts info_u32;have:=run_make (P:=Tryz.prog) w 25 83 e (.int .u32 0) Tryz.underlying25 d a .i64 .i64 n n (by omega) (by omega) (by rw[c];omega) (by omega);rw[b] at this;simp only[Int.toNat_natCast] at this;rw[made_zero] at this;exact this
end cell
section
open Go.RowKit
theorem wp_letS{P:Program}{ops:Array Oper}{rest:List Oper}{o:Oper}{a:Act}{w:World}{Q:Exit→Act→World→Prop}(hgd:o.guard=none)(ty:TypeId)(x y:Operand)(ho:o.op=.store ty x y)
  (g off:Nat) (hx:a.eval x=.pointer (some ⟨g,off,none⟩)) (p:Option Addr) (n c:Nat) (hy:a.eval y=.slice p n c) (hi:(P.info? ty).map (·.size)=some 1)
  (cs:Array Value) (t:TypeId) (hB:Blk w g cs t) (hin:off<cs.size)
  (h:∀W,Upd w W g (cs.setIfInBounds off (.slice p n c)) t→wpList P ops Q rest (a.put o.dst undef) W):wpList P ops Q (o::rest) a w:=
 wp_let hgd ty x y ho g off hx _ hy #[.slice p n c] rfl hi (by simp[Value.oneCell']) cs t hB (by simp;omega) _ rfl h
end
section
open Go.RowKit
theorem zm {P : Program} {ops : Array Oper} {rest : List Oper} {o : Oper} {a : Act} {w : World} {Q : Exit → Act → World → Prop} {ty : TypeId} {x y : Operand} {g off : Nat} {p : Option Addr} {n c : Nat} {cs : Array Value} {t : TypeId}
 (h : ∀ W, Upd w W g (cs.setIfInBounds off (.slice p n c)) t → wpList P ops Q rest (a.put o.dst undef) W) (hgd : o.guard = none := by exact rfl) (ho : o.op = .store ty x y := by exact rfl)
 (hx : a.eval x = .pointer (some ⟨g, off, none⟩) := by exact rfl) (hy : a.eval y = .slice p n c := by exact rfl) (hi : (P.info? ty).map (·.size) = some 1 := by kernel_rfl)
 (hB : Hid (Blk w g cs t) := by assumption) (hin : off < cs.size := by simp) : wpList P ops Q (o :: rest) a w := wp_letS hgd ty x y ho g off hx p n c hy hi cs t hB.out hin h
end
namespace words
open Go.RowKit
abbrev Wat(w:World)(G:Nat)(x:W3):Prop:=Trio w G (.int .u32 x.a) (.int .u32 x.b) (.int .u32 x.c)
variable{y0 y1 y2:Value}{G:Nat}
theorem Trio.lt{w:World}(h:Trio w G y0 y1 y2):G<w.heap.size:=by
 by_cases a:G<w.heap.size
 ·exact a
 ·unfold Trio at h;rw[Array.getElem?_eq_none (by omega)] at h;cases h
theorem Trio.below{w w':World}(h:Trio w G y0 y1 y2)(hb:zB w w'):Trio w' G y0 y1 y2:=by
 have a:=h.lt;unfold Trio at *;rw[hb.block G a];exact h
abbrev put3(w:World)(G:Nat)(a b c:Value):World:=((w.setCell ⟨G,0,none⟩ a).setCell ⟨G,1,none⟩ b).setCell ⟨G,2,none⟩ c
theorem Trio.put{w:World}(h:Trio w G y0 y1 y2)(a b c:Value):Trio (put3 w G a b c) G a b c:=((h.set0 a).set1 b).set2 c
theorem below_put3{B:Nat}{w w':World}(h:Below B w w')(G:Nat)(u v x:Value)(hG:B≤G):Below B w (put3 w' G u v x):=below_set (below_set (below_set h G 0 u hG) G 1 v hG) G 2 x hG
theorem agg_ne{x y:W3}(h:x≠y):¬ (x.a=y.a∧x.b=y.b∧x.c=y.c):=λ⟨h1,h2,h3⟩=>h (by cases x;cases y;simp_all)
theorem run_timesStep(args:Array Value)(w:World):(callFunc 166 args).run Tryz.prog w=.ok (.enter 166 args) w:=by kernel_rfl
theorem times_any(x:W3)(m:Int)(w:World)(hx:x.ok)(m0:0≤m)(m1:m<4294967296):
  Calls Tryz.prog 124 #[wv x,.int .u32 m] w λe w'=>e=.returned (.tuple #[wv (timesW x m),.int .u32 (timesO x m)])∧zB w w':=by
 obtain⟨a,b,c⟩:=x;obtain⟨⟨t,g⟩,⟨u,i⟩,y,j⟩:=hx;simp only at t g u i y j;go_enter Tryz.func124,Tryz.ntmps124;go_wp2_with fail;obtain⟨K,A⟩:=prod_bd t g m0 m1;obtain⟨L,B⟩:=prod_bd u i m0 m1;obtain⟨M,C⟩:=prod_bd y j m0 m1;have k:=trio_d w #[.int .u32 a,.int .u32 b,.int .u32 c] (.int .u32 m) 83 (.int .u32 0) (.int .u32 0) (.int .u32 0) (.int .u64 0) 174;have q:=bel4 w (.cells #[.int .u32 a,.int .u32 b,.int .u32 c] 135) (.cells #[.int .u32 m] 83) (.cells #[.int .u32 0,.int .u32 0,.int .u32 0] 135) (.cells #[.int .u64 0] 174);have G:(0:Int)+a*m=a*m:=by omega
 refine (upward_any 166 #[.pointer (some ⟨w.heap.size+1+1+1,0,none⟩),.pointer (some ⟨w.heap.size+1,0,none⟩)] (w.heap.size+1+1+1) (.int .u64 0) (.int .u64 ((a*m) / 4294967296)) (.int .u64 (((a*m) / 4294967296+b*m) / 4294967296)) (.int .u64 ((((a*m) / 4294967296+b*m) / 4294967296+c*m) / 4294967296)) a b c
  ((a*m)%4294967296) (((a*m)/4294967296+b*m)%4294967296) ((((a*m)/4294967296+b*m)/4294967296+c*m)%4294967296) _ (Acc.refl k.1 k.2.1) run_timesStep
  (λw' h=>by have:=timesStep_any (w.heap.size+1+1+1) (w.heap.size+1) 0 a m w' h.cell h.free (h.keep k.2.2.2 (by omega)) (by omega) (by omega) t g m0 m1;rw[G] at this;exact this)
  (λw' h=>timesStep_any _ _ _ _ _ w' h.cell h.free (h.keep k.2.2.2 (by omega)) (by omega) (by omega) u i m0 m1)
  (fun w' h=>timesStep_any _ _ _ _ _ w' h.cell h.free (h.keep k.2.2.2 (by omega)) (by omega) (by omega) y j m0 m1)).mono ?_
 rintro e r ⟨H,n⟩;have f:Trio r (w.heap.size+1+1) (.int .u32 0) (.int .u32 0) (.int .u32 0):=k.2.2.1.acc n (by omega);have F:Hid (zB w r):=n.below q (by omega);have l:=n.cell;have J:w.heap.size+1+1+1<r.heap.size:=Nat.lt_of_lt_of_le n.old n.size;have E:wv (timesW ⟨a,b,c⟩ m)=.agg #[.int .u32 ((a*m)%4294967296),.int .u32 (((a*m)/4294967296+b*m)%4294967296),.int .u32 ((((a*m)/4294967296+b*m)/4294967296+c*m)%4294967296)]:=rfl;have D:timesO ⟨a,b,c⟩ m=(((a*m)/4294967296+b*m)/4294967296+c*m)/4294967296:=rfl;have N:0≤(((a*m)/4294967296+b*m)/4294967296+c*m)/4294967296:=by omega
 have O:(((a*m)/4294967296+b*m)/4294967296+c*m)/4294967296<4294967296:=by omega
 have p:Hid (.returned (.tuple #[wv (timesW ⟨a,b,c⟩ m),.int .u32 (timesO ⟨a,b,c⟩ m)])=Ending.returned (.tuple #[.agg #[.int .u32 ((a*m)%4294967296),.int .u32 (((a*m)/4294967296+b*m)%4294967296),.int .u32 ((((a*m)/4294967296+b*m)/4294967296+c*m)%4294967296)],.int .u32 ((((a*m)/4294967296+b*m)/4294967296+c*m)/4294967296)])):=by
  have:Ending.returned (.tuple #[wv (timesW ⟨a,b,c⟩ m),.int .u32 (timesO ⟨a,b,c⟩ m)])=Ending.returned (.tuple #[.agg #[.int .u32 ((a*m)%4294967296),.int .u32 (((a*m)/4294967296+b*m)%4294967296),.int .u32 ((((a*m)/4294967296+b*m)/4294967296+c*m)%4294967296)],.int .u32 ((((a*m)/4294967296+b*m)/4294967296+c*m)/4294967296)]):=by rw[E,D]
  exact this
 clear n k q E D G K A L B M C;have d:Hid (e=.returned (.agg #[.int .u32 ((a*m)%4294967296),.int .u32 (((a*m)/4294967296+b*m)%4294967296),.int .u32 ((((a*m)/4294967296+b*m)/4294967296+c*m)%4294967296)])):=H;clear H;generalize hz:(((a*m)/4294967296+b*m)/4294967296+c*m)/4294967296=z at l N O p d;generalize hy0:(a*m)%4294967296=y0 at p d;generalize hy1:((a*m)/4294967296+b*m)%4294967296=y1 at p d;generalize hy2:(((a*m)/4294967296+b*m)/4294967296+c*m)%4294967296=y2 at p d;clear hz hy0 hy1 hy2;obtain rfl:=d.o;have f:=f.alloc (.cells #[.int .u32 y0,.int .u32 y1,.int .u32 y2] 135);have S:=f.c0;have T:=f.c1;have U:=f.c2;have P:=f.free 0;have Q:=f.free 1;have R:=f.free 2;have I:Hid (Trio (r.alloc (.cells #[.int .u32 y0,.int .u32 y1,.int .u32 y2] 135)) (w.heap.size+1+1) (.int .u32 0) (.int .u32 0) (.int .u32 0)):=f;clear f;go_wp2_with fail;go_region
 all_goals go_wp2_with fail
 have s:=((I.o.set0 (.int .u32 y0)).set1 (.int .u32 y1)).set2 (.int .u32 y2);refine bodyPost_ret (v:=.tuple #[.agg #[.int .u32 y0,.int .u32 y1,.int .u32 y2],.int .u32 z]) (by simp[results,Tryz.results124,s.c0,s.c1,s.c2,go_sem]) rfl ⟨p.o.symm,?_⟩;exact below_put (F.o.alloc F.o.size _) _ _ _ _ _ _ _ (by omega)
end words
namespace deb
open tar (Du du0 Came RowD Ld ErrPost TwoPost PairT GaveD)
open Go.RowKit
theorem dwithin(lo hi n:Int)(w:World):Calls Tryz.prog 145 #[zI lo,zI hi,zI n] w λe w'=>e=.returned (.bool (decide (lo≤n∧n≤hi)))∧w'=w:=by
 by_cases b:lo≤n
 ·by_cases c:n≤hi
  ·have a:decide (lo≤n∧n≤hi)=true:=by simp;omega
   rw[a];clear a;go_enter Tryz.func145,Tryz.ntmps145;go_wp2;go_ret;exact⟨rfl,rfl⟩
  ·have a:decide (lo≤n∧n≤hi)=false:=by simp;omega
   have d:decide (n≤hi)=false:=by simp;omega
   rw[a];clear a c;go_enter Tryz.func145,Tryz.ntmps145;go_wp2;go_ret;exact⟨rfl,rfl⟩
 ·have a:decide (lo≤n∧n≤hi)=false:=by simp;omega
  have d:decide (lo≤n)=false:=by simp;omega
  rw[a];clear a b;go_enter Tryz.func145,Tryz.ntmps145;go_wp2;go_ret;exact⟨rfl,rfl⟩
theorem pcheck(a:Option Addr)(n cap:Nat)(ls:List Du)(w:World)(hr:RowD w a n ls)(hn:n≤maxLen):Calls Tryz.prog 142 #[.slice a n cap] w λe w'=>∃f,e=.returned (zI f)∧FaultIs ls f∧zB w w':=by
 have c:=hr.1;have J:Hid (∀x W,zC 145 #[zI 0,zI 1000000000,zI x] W λe w'=>e=.returned (.bool (decide (0≤x∧x≤1000000000)))∧w'=W):=λx W=>dwithin 0 1000000000 x W;have I:Hid (∀x W,zC 145 #[zI 0,zI 10000,zI x] W λe w'=>e=.returned (.bool (decide (0≤x∧x≤10000)))∧w'=W):=λx W=>dwithin 0 10000 x W;have R:n≤9223372036854775807:=by unfold maxLen at hn;omega
 by_cases O:n≤8
 ·have B:Hid (ls.length≤8):=by show _≤_;rw[c];exact O
  have M:decide (8<(n:Int))=false:=decide_eq_false (by omega);have A:Hid (RowD w a n ls):=hr;have d:Hid (ls.length=n):=c;clear hr hn c;go_enter Tryz.func142,Tryz.ntmps142;go_wp2_with fail;go_loopw [10] (λx wr=>∃k:Nat,k≤n∧x=zI (k:Int)∧(∀i,i<k→Ok1 (ls.getD i du0))∧zB w wr) (λx _=>n-(intOf x).toNat)
  case atStart=>exact⟨0,Nat.zero_le _,rfl,λi E=>absurd E (Nat.not_lt_zero _),zb⟩
  case round=>
   obtain⟨k,S,rfl,hf,t⟩:=hrel;have P:Hid (∀i,i<k→Ok1 (ls.getD i du0)):=hf;have Q:Hid (zB w wr):=t;clear hf;by_cases j:k<n
   ·have N:decide ((k:Int)<(n:Int))=true:=by simp;omega
    obtain⟨b,m,rfl,D,L⟩:=A.o.at (by omega);have c0:wr.cell? ⟨b,m+k*2,none⟩=some (zI (ls.getD k du0).a):=(t.cell (p:=⟨b,m+k*2,none⟩) D).trans (L k j).1;have c1:wr.cell? ⟨b,m+k*2+1,none⟩=some (zI (ls.getD k du0).b):=(t.cell (p:=⟨b,m+k*2+1,none⟩) D).trans (L k j).2;have r:Hid (∀o,zB w (wr.alloc o)):=λo=>t.alloc t.size o;clear t L;have C:=J.o (ls.getD k du0).a;have F:=I.o (ls.getD k du0).b;by_cases u:0≤(ls.getD k du0).a∧(ls.getD k du0).a≤1000000000
    ·rw[decide_eq_true u] at C;by_cases z:0≤(ls.getD k du0).b∧(ls.getD k du0).b≤10000
     ·
      rw[decide_eq_true z] at F
      have G:Hid (∀i,i<k+1→Ok1 (ls.getD i du0)):=λi E=>by
       by_cases e:i=k
       ·subst e;exact⟨u,z⟩
       ·exact P.o i (by omega)
      have g:Hid (∀W,zC 145 #[zI 0,zI 1000000000,zI (ls.getD k du0).a] W λe w'=>e=.returned (.bool true)∧w'=W):=C;have s:Hid (∀W,zC 145 #[zI 0,zI 10000,zI (ls.getD k du0).b] W λe w'=>e=.returned (.bool true)∧w'=W):=F;clear u z;generalize (ls.getD k du0).a=x at *;generalize (ls.getD k du0).b=y at *;go_wp2_with fail;refine(g.o _).mono ?_;rintro e q ⟨rfl,l⟩;subst q;go_wp2_with fail;refine(s.o _).mono ?_;rintro e q ⟨rfl,l⟩;subst q;go_wp2_with fail;go_roundw
      case rel=>exact⟨k+1,by omega,by go_num,G.o,r.o _⟩
      case measure=>simp[intOf];omega
     ·
      rw[decide_eq_false z] at F;have K:Hid (¬ DFits ls):=λh=>z (h k (by rw[d.o];exact j)).2;have g:Hid (∀W,zC 145 #[zI 0,zI 1000000000,zI (ls.getD k du0).a] W λe w'=>e=.returned (.bool true)∧w'=W):=C;have s:Hid (∀W,zC 145 #[zI 0,zI 10000,zI (ls.getD k du0).b] W λe w'=>e=.returned (.bool false)∧w'=W):=F;clear u z;generalize (ls.getD k du0).a=x at *;generalize (ls.getD k du0).b=y at *;go_wp2_with fail;refine(g.o _).mono ?_;rintro e q ⟨rfl,l⟩;subst q;go_wp2_with fail;refine(s.o _).mono ?_;rintro e q ⟨rfl,l⟩;subst q;go_wp2_with fail;go_ret;exact⟨_,rfl,.inr (.inl ⟨B.o,K.o,rfl⟩),r.o _⟩
    ·
     rw[decide_eq_false u] at C;have K:Hid (¬ DFits ls):=λh=>u (h k (by rw[d.o];exact j)).1;have g:Hid (∀W,zC 145 #[zI 0,zI 1000000000,zI (ls.getD k du0).a] W λe w'=>e=.returned (.bool false)∧w'=W):=C;clear u;generalize (ls.getD k du0).a=x at *;generalize (ls.getD k du0).b=y at *;go_wp2_with fail;refine(g.o _).mono ?_;rintro e q ⟨rfl,l⟩;subst q;go_wp2_with fail;go_ret;exact⟨_,rfl,.inr (.inl ⟨B.o,K.o,rfl⟩),r.o _⟩
   ·obtain rfl:k=n:=by omega
    have N:decide ((k:Int)<(k:Int))=false:=by simp
    have H:Hid (DFits ls):=λi E=>P.o i (by rw[d.o] at E;exact E);clear t;go_wp2_with fail;go_ret;exact⟨_,rfl,.inr (.inr ⟨⟨B.o,H.o⟩,rfl⟩),Q.o⟩
 ·have B:Hid (¬ ls.length≤8):=by show ¬ _≤_;rw[c];exact O
  have M:decide (8<(n:Int))=true:=decide_eq_true (by omega);clear O hr c hn;go_enter Tryz.func142,Tryz.ntmps142;go_wp2_with fail;go_ret;exact⟨_,rfl,.inl ⟨B.o,rfl⟩,zb⟩
end deb
namespace tar
open Go.RowKit
open Classical in
theorem prises(b off k cap:Nat)(ls:List Du)(w1:World)(hs1:1≤k)(hs2:k≤8)(hlen:ls.length=k)(hbl:b<w1.heap.size)(hc:∀i,i<k→w1.cell? ⟨b,off+i*2,none⟩=some (zI (ls.getD i du0).a)∧w1.cell? ⟨b,off+i*2+1,none⟩=some (zI (ls.getD i du0).b)):Calls Tryz.prog 146 #[.slice (some ⟨b,off,none⟩) k cap] w1 λe w'=>e=.returned (.bool (decide (Rises ls)))∧zB w1 w':=by
 have HC:Hid (∀i,i<k→w1.cell? ⟨b,off+i*2,none⟩=some (zI (ls.getD i du0).a)∧w1.cell? ⟨b,off+i*2+1,none⟩=some (zI (ls.getD i du0).b)):=hc;have HLEN:Hid (ls.length=k):=hlen;have hnm:k≤9223372036854775807:=by omega
 clear hc hlen;go_enter Tryz.func146,Tryz.ntmps146;go_wp2_with fail;go_loopw [3] (λx wr2=>∃j:Nat,1≤j∧j≤k∧x=zI (j:Int)∧(∀i,1≤i→i<j→(ls.getD (i-1) du0).a<(ls.getD i du0).a)∧zB w1 wr2) (λx _=>k-(intOf x).toNat)
 case atStart=>exact⟨1,zc,hs1,rfl,λi h1 h2=>absurd h2 (by omega),zb⟩
 case round=>
  obtain⟨j,hj1,hj,rfl,hf,hb⟩:=hrel;have HF:Hid (∀i,1≤i→i<j→(ls.getD (i-1) du0).a<(ls.getD i du0).a):=hf;have HB:Hid (zB w1 wr):=hb;by_cases hlt2:j<k
  ·have hdl2:decide ((j:Int)<(k:Int))=true:=by simp;omega
   have c0:wr.cell? ⟨b,off+j*2,none⟩=some (zI (ls.getD j du0).a):=(hb.cell (p:=⟨b,off+j*2,none⟩) hbl).trans (HC.o j hlt2).1;have c1:wr.cell? ⟨b,off+(j-1)*2,none⟩=some (zI (ls.getD (j-1) du0).a):=(hb.cell (p:=⟨b,off+(j-1)*2,none⟩) hbl).trans (HC.o (j-1) (by omega)).1;have hs2':wr.drew.cell? ⟨b,off+j*2,none⟩=some (zI (ls.getD j du0).a):=c0;have HBD:Hid (zB w1 wr.drew):=hb.drew;have hsub:((j:Int)-1)=((j-1:Nat):Int):=by omega
   have hjm:j-1<k:=by omega
   clear hb hf;by_cases hle:(ls.getD j du0).a≤(ls.getD (j-1) du0).a
   ·have hde:decide ((ls.getD j du0).a≤(ls.getD (j-1) du0).a)=true:=decide_eq_true hle
    have HN:Hid (decide (Rises ls)=false):=decide_eq_false λh=>by
     have:=h j hj1 (by rw[HLEN.o];exact hlt2);omega
    clear hle;generalize (ls.getD j du0).a=x at *;generalize (ls.getD (j-1) du0).a=y at *;generalize j-1=j1 at *;go_wp2_with fail;go_region
    all_goals go_wp2_with fail
    go_ret;exact⟨by rw[HN.o];rfl,HBD.o⟩
   ·have hde:decide ((ls.getD j du0).a≤(ls.getD (j-1) du0).a)=false:=decide_eq_false hle
    have HF2:Hid (∀i,1≤i→i<j+1→(ls.getD (i-1) du0).a<(ls.getD i du0).a):=λi h1 h2=>by
     by_cases e:i=j
     ·subst e;omega
     ·exact HF.o i h1 (by omega)
    clear hle;generalize (ls.getD j du0).a=x at *;generalize (ls.getD (j-1) du0).a=y at *;generalize j-1=j1 at *;go_wp2_with fail;go_region
    all_goals go_wp2_with fail
    go_roundw
    case rel=>exact⟨j+1,by omega,by omega,by go_num,HF2.o,HBD.o⟩
    case measure=>simp[intOf];omega
  ·obtain rfl:j=k:=by omega
   have hdl2:decide ((j:Int)<(j:Int))=false:=by simp
   have HR:Hid (decide (Rises ls)=true):=decide_eq_true λi h1 h2=>HF.o i h1 (by rw[HLEN.o] at h2;exact h2);clear hb hf;go_wp2_with fail;go_ret;exact⟨by rw[HR.o];rfl,HB.o⟩
end tar
namespace words
open Go.RowKit
def Ty(w:World)(b:Nat):Prop:=∃cs fr,w.heap[b]?=some (.cells cs 83 fr)
theorem Ty.lt{w:World}{b:Nat}(h:Ty w b):b<w.heap.size:=by
 obtain⟨cs,c,h⟩:=h;by_cases a:b<w.heap.size
 ·exact a
 ·rw[Array.getElem?_eq_none (by omega)] at h;cases h
variable{a:Option Addr}{w w':World}{l:List Nat}{n cap:Nat}
theorem Ty.same{b:Nat}(h:Ty w b)(e:w'.heap[b]?=w.heap[b]?):Ty w' b:=by
 obtain⟨cs,a,h⟩:=h;exact⟨cs,a,e.trans h⟩
theorem ty_new(w:World)(cs:Array Value):Ty (w.alloc (.cells cs 83)) w.heap.size:=by
 refine⟨cs,(0,0),?_⟩;show (w.heap.push _)[w.heap.size]?=_;rw[Array.getElem?_push_size]
structure Ru (w:World) (a:Option Addr) (n cap:Nat) (l:List Nat):Prop where
 len:l.length=n
 lt:∀x∈l,x<4294967296
 nil:a=none→cap=0
 room:n≤cap
 cell:n=0∨∃b off,a=some ⟨b,off,none⟩∧∀i,i<n→w.cell? ⟨b,off+i,none⟩=some (.int .u32 ((l.getD i 0:Nat):Int))
 typ:∀b off s,a=some ⟨b,off,s⟩→n≠0→Ty w b
theorem Ru.below(h:Ru w a n cap l)(hb:zB w w'):Ru w' a n cap l:=by
 refine⟨h.len,h.lt,h.nil,h.room,?_,λb c s e f=>(h.typ b c s e f).same (hb.block b (h.typ b c s e f).lt)⟩;rcases h.cell with g|⟨b,c,rfl,j⟩
 ·exact .inl g
 ·refine .inr ⟨b,c,rfl,λi k=>?_⟩;have d:=j i k;rw[hb.cell (p:=⟨b,c+i,none⟩) (World.block_lt_of_cell? w _ d)];exact d
theorem Ru.at{w:World}(h:Ru w a n cap l){i:Nat}(hi:i<n):∃b off,a=some ⟨b,off,none⟩∧w.cell? ⟨b,off+i,none⟩=some (.int .u32 ((l.getD i 0:Nat):Int)):=by
 rcases h.cell with d|⟨b,off,rfl,c⟩
 ·omega
 ·exact⟨b,off,rfl,c i hi⟩
theorem Ru.word{w:World}(h:Ru w a n cap l)(i:Nat):l.getD i 0<4294967296:=by
 by_cases b:i<l.length
 ·exact h.lt _ (by simp[List.getD,List.getElem?_eq_getElem b])
 ·simp[List.getD,List.getElem?_eq_none (show l.length≤i by omega)]
def Gives(w:World)(m:Nat)(e:Ending)(w':World):Prop:=∃a n cap,e=.returned (.slice a n cap)∧Ru w' a n cap (dig m)∧zB w w'
theorem Gives.mk{m n cap:Nat}(h1:Ru w' a n cap (dig m))(h2:zB w w'):Gives w m (.returned (.slice a n cap)) w':=⟨a,n,cap,rfl,h1,h2⟩
theorem slice_top(a:Option Addr)(n cap k:Nat)(w:World)(hk:k≤n)(hn:n≤cap)(ha:a=none→cap=0):(Instr.slice 25 (.slice a n cap) none (some (zI (k:Int))) none).run Tryz.prog w=.ok (.slice a k cap) w:=by
 have b:k≤cap:=by omega
 cases a with
 |none=>
  have:=ha rfl;have:k=0:=by omega
  subst_vars
  simp[Instr.slice,Instr.sliceBounds,Instr.sliceBound,asIntOf,run_underlying Tryz.underlying25,go_sem]
 |some x=>simp[Instr.slice,Instr.sliceBounds,Instr.sliceBound,asIntOf,run_underlying Tryz.underlying25,b,go_sem]
theorem trim_any(a:Option Addr)(n cap:Nat)(l:List Nat)(w:World)(h:Ru w a n cap l)(hn:n≤1000):
  Calls Tryz.prog 176 #[.slice a n cap] w λe w'=>Gives w (nv l) e w':=by
 have d:Hid (Ru w a n cap l):=h;clear h;go_enter Tryz.func176,Tryz.ntmps176;go_wp2_with fail;go_loop [3] (λv=>∃k:Nat,k≤n∧v=zI k∧∀i,k≤i→i<n→l.getD i 0=0) (λv=>(intOf v).toNat)
 case atStart=>exact⟨n,zc,rfl,λi q m=>by omega⟩
 case round=>
  obtain⟨k,t,rfl,D⟩:=hrel;have B:Hid (∀i,k≤i→i<n→l.getD i 0=0):=D;clear D
  have j:(k=0∨l.getD (k-1) 0≠0)→Gives w (nv l) (.returned (.slice a k cap)) w:=λI=>by
   have e:=trim_dig l k d.o.lt (by rw[d.o.len];exact t) (λi q m=>B.o i q (by rw[d.o.len] at m;exact m)) I;refine Gives.mk ?_ zb;rw[← e];refine⟨by rw[List.length_take,d.o.len];omega,λx K=>d.o.lt x (List.mem_of_mem_take K),d.o.nil,Nat.le_trans t d.o.room,?_,λb f s e hn=>d.o.typ b f s e (by omega)⟩;rcases d.o.cell with L|⟨b,f,rfl,p⟩
   ·exact .inl (by omega)
   ·refine .inr ⟨b,f,rfl,λi J=>?_⟩;rw[p i (by omega)]
    congr 3
    simp[List.getD,J]
  have A:Hid ((k=0∨l.getD (k-1) 0≠0)→Gives w (nv l) (.returned (.slice a k cap)) w):=j;have z:=slice_top a n cap k w t d.o.room d.o.nil;clear j;by_cases u:k=0
  ·subst u;go_wp2_with fail;go_ret;exact A.o (.inl (by trivial))
  ·obtain⟨b,f,rfl,p⟩:=d.o.at (i:=k-1) (by omega);have G:(k:Int)-1=((k-1:Nat):Int):=by omega
   have kp:(0:Int)<(k:Int):=by omega
   by_cases c:l.getD (k-1) 0=0
   ·rw[c] at p
    have F:Hid (∀i,k-1≤i→i<n→l.getD i 0=0):=λi q m=>by
     by_cases e:i=k-1
     ·rw[e];exact c
     ·exact B.o i (by omega) m
    clear z c;have C:k-1<n:=by omega
    generalize r:k-1=g at *;go_wp2_with fail;go_round
    case rel=>exact⟨g,by omega,by go_num,F.o⟩
    case measure=>simp[intOf];omega
   ·have H:((((l.getD (k-1) 0:Nat):Int))==0)=false:=beq_eq_false_iff_ne.2 (by omega);have E:Hid (l.getD (k-1) 0≠0):=c;clear c;have C:k-1<n:=by omega
    generalize ((l.getD (k-1) 0:Nat):Int)=y at H p;generalize r:k-1=g at p G C;go_wp2_with fail;go_ret;exact A.o (.inr E.o)
theorem ru_two(w:World)(x y:Nat)(hx:x<4294967296)(hy:y<4294967296):Ru (w.alloc (.cells #[.int .u32 (x:Int),.int .u32 (y:Int)] 83)) (some ⟨w.heap.size,0,none⟩) 2 2 [x,y]:=by
 refine⟨rfl,?_,(λh=>by cases h),zc,.inr ⟨w.heap.size,0,rfl,λi c=>?_⟩,λb a s e _=>by obtain⟨rfl,-,-⟩:=(by simpa using e:w.heap.size=b∧0=a∧none=s);exact ty_new _ _⟩
 ·intro z d;simp at d;omega
 ·match i,c with
  |0,_=>simp
  |1,_=>simp
theorem words_any(x:Nat)(w:World)(hx:x<18446744073709551616):
  Calls Tryz.prog 175 #[.int .u64 (x:Int)] w λe w'=>Gives w x e w':=by
 have f:x%4294967296<4294967296:=Nat.mod_lt _ (by decide);have k:x/4294967296<4294967296:=by omega
 have b:=ru_two w (x%4294967296) (x/4294967296) f k;have j:Hid (nv [x%4294967296,x/4294967296]=x):=(by simp only[nv];omega:nv [x%4294967296,x/4294967296]=x)
 have l:((x:Nat):Int)%4294967296=((x%4294967296:Nat):Int):=by omega
 have m:((x:Nat):Int)/4294967296=((x/4294967296:Nat):Int):=by omega
 have i:Hid (Ru (w.alloc (.cells #[.int .u32 ((x%4294967296:Nat):Int),.int .u32 ((x/4294967296:Nat):Int)] 83)) (some ⟨w.heap.size,0,none⟩) 2 2 [x%4294967296,x/4294967296]):=b;have d:Hid (zB w (w.alloc (.cells #[.int .u32 ((x%4294967296:Nat):Int),.int .u32 ((x/4294967296:Nat):Int)] 83))):=(Below.refl _ w).alloc zc _;clear b f;generalize x%4294967296=q at *;generalize x/4294967296=p at *;go_enter Tryz.func175,Tryz.ntmps175;go_wp2_with fail;refine(trim_any _ _ _ _ _ i.o (by omega)).mono ?_;rintro e w' ⟨a,n,c,rfl,b,g⟩;rw[j.o] at b;have h:Hid (Gives w x (.returned (.slice a n c)) w'):=Gives.mk b (d.o.trans (g.mono d.o.size));clear b g;go_wp2_with fail;go_ret;exact h.o
end words
end Go.Proofs.YtoepgdhiepedeaaGreatDoor
