import Derived.Test.YtdpfnedfakgolaaGreatDoorVVRnt5
import Derived.Test.YtdpfnedfakgolaaGreatDoorVVRnt6
import Derived.Test.YtdpfnedfakgolaaGreatDoorVVRnt7
set_option linter.unusedVariables false
set_option linter.unusedSimpArgs false
set_option maxHeartbeats 4000000
set_option maxRecDepth 100000
namespace Go.Proofs.YtdpfnedfakgolaaGreatDoor
namespace rcp
structure Rc where
 me:Int
 id:Int
 te:Int
 de:Int
 fe:Int
 pr:Int
 ch:Int
 un:Int
 tk:List UInt8
def rc0:Rc:=⟨0,0,0,0,0,0,0,0,[]⟩
end rcp
namespace book
open Go.RowKit
theorem rowD_grown {w w':World} {own:Option Nat} {a:Option Addr} {n:Nat} {zs:List tar.Du} (h:tar.RowD w a n zs) (hg:w.grownBy w' own) (hne:0<n→∀ x,a=some x→some x.block≠own):tar.RowD w' a n zs:=by
 refine ⟨h.1,?_⟩;rcases h.2 with h0 | ⟨b,off,rfl,hc⟩
 ·exact .inl h0
 ·refine .inr ⟨b,off,rfl,fun i hi=>?_⟩;have h1:=hc i hi;have hb:=hg.block b (World.block_lt_of_cell? w ⟨b,off+i*2,none⟩ h1.1) (hne (by omega) _ rfl);have e:∀ o,w'.cell? ⟨b,o,none⟩=w.cell? ⟨b,o,none⟩:=fun o=>by simp [World.cell?,hb]
  rw [e,e];exact h1
theorem came_grown {w w':World} {own:Option Nat} {a:Option Addr} {n cap:Nat} {zs:List tar.Du} (h:tar.Came w a n cap zs) (hg:w.grownBy w' own) (hne:0<n→∀ x,a=some x→some x.block≠own):tar.Came w' a n cap zs:=⟨rowD_grown h.row hg hne,h.nil,h.room,h.bytes,h.wf⟩
def Cu.sold (x:Cu):Value:= .slice x.sp x.sn x.sc
def Cu.v (x:Cu):Value:= .agg x.cs.toArray
def Nums (x:Cu) (a:acc.Ac):Prop:=x.me=a.me∧x.rv=a.rv∧x.nx=a.nx∧x.mo=a.mo∧x.bo=a.bo∧x.fr=a.fr
structure Has (w:World) (base:Nat) (x:Cu) (c:Cm):Prop where
 num:Nums x c.a
 ds:deb.Fresh w base x.dp x.dn x.dc c.a.ds
 so:Lo w base x.sold c.so
def Apart (x y:Cu):Prop:=(∀ g,x.sold.ownBlock=some g→y.sold.ownBlock≠some g)∧(∀ g,x.sold.ownBlock=some g→0<y.dn→∀ p,y.dp=some p→p.block≠g)∧(∀ g,y.sold.ownBlock=some g→0<x.dn→∀ p,x.dp=some p→p.block≠g)
theorem Apart.symm {x y:Cu} (h:Apart x y):Apart y x:=⟨fun g h1 h2=>h.1 g h2 h1,h.2.2,h.2.1⟩
def Off (x:Cu) (own:Option Nat):Prop:=(∀ g,x.sold.ownBlock=some g→own≠some g)∧(0<x.dn→∀ p,x.dp=some p→some p.block≠own)
theorem Has.next {w w':World} {base:Nat} {x:Cu} {c:Cm} (h:Has w base x c) (hb:Below w.heap.size w w'):Has w' base x c:=⟨h.num,h.ds.below hb,h.so.next hb⟩
theorem Has.kept {w w':World} {base:Nat} {own:Option Nat} {x:Cu} {c:Cm} (h:Has w base x c) (hg:w.grownBy w' own) (ho:Off x own):Has w' base x c:=⟨h.num,⟨came_grown h.ds.came hg ho.2,h.ds.new⟩,h.so.kept hg ho.1⟩
structure Holds (w:World) (base:Nat) (V:Value) (xs:List Cu) (bk:List Cm):Prop where
 row:Lc w base V xs
 len:xs.length=bk.length
 has:∀ i,i<xs.length→Has w base (xs.getD i cu0) (bk.getD i cm0)
 off:∀ i,i<xs.length→Off (xs.getD i cu0) V.ownBlock
 self:∀ i,i<xs.length→∀ g,(xs.getD i cu0).sold.ownBlock=some g→0<(xs.getD i cu0).dn→∀ p,(xs.getD i cu0).dp=some p→p.block≠g
 apart:∀ i j,i<xs.length→j<xs.length→i≠j→Apart (xs.getD i cu0) (xs.getD j cu0)
theorem Holds.zero (w:World) (base:Nat):Holds w base (zS) [] []:=⟨Lc.zero _ _,rfl,(fun i hi=>by cases hi),(fun i hi=>by cases hi),(fun i hi=>by cases hi),(fun i j hi=>by cases hi)⟩
theorem Holds.next {w w':World} {base:Nat} {V:Value} {xs:List Cu} {bk:List Cm} (h:Holds w base V xs bk) (hb:Below w.heap.size w w'):Holds w' base V xs bk:=⟨h.row.next hb,h.len,fun i hi=>(h.has i hi).next hb,h.off,h.self,h.apart⟩
theorem getD_snoc {α:Type} (l:List α) (x d:α) (i:Nat) (hi:i<l.length+1):(l++[x]).getD i d=if i<l.length then l.getD i d else x:=by
 by_cases h:i<l.length
 ·rw [if_pos h];simp [List.getD,List.getElem?_append_left h]
 ·have:i=l.length:=by omega
  subst this;rw [if_neg h];simp [List.getD]
theorem Holds.snoc {w w':World} {base:Nat} {V V':Value} {xs:List Cu} {bk:List Cm} {x:Cu} {c:Cm} (h:Holds w base V xs bk) (hx:Has w base x c) (hxs:x.sold.ownBlock=none) (hxd:x.dn=0)
  (hr:Lc w' base V' (xs++[x])) (hg:w.grownBy w' V.ownBlock) (ho:V'.ownBlock=V.ownBlock∨V'.ownBlock=some w.heap.size):Holds w' base V' (xs++[x]) (bk++[c]):=by
 have hnew:∀ y:Cu,Off y V.ownBlock→(∀ g,y.sold.ownBlock=some g→g<w.heap.size)→(0<y.dn→∀ p,y.dp=some p→p.block<w.heap.size)→Off y V'.ownBlock:=fun y h1 h2 h3=>by
  rcases ho with e | e
  ·rw [e];exact h1
  ·rw [e];exact ⟨fun g hg' q=>(by have:=h2 g hg';have:=Option.some.inj q;omega),fun hn p hp q=>(by have:=h3 hn p hp;have:=Option.some.inj q;omega)⟩
 have lt1:∀ i,i<xs.length→∀ g,(xs.getD i cu0).sold.ownBlock=some g→g<w.heap.size:=fun i hi g hgg=>(World.ownsRow.lt (h.has i hi).so g hgg).2
 have lt2:∀ i,i<xs.length→0<(xs.getD i cu0).dn→∀ p,(xs.getD i cu0).dp=some p→p.block<w.heap.size:=fun i hi hn p hp=>by
  obtain ⟨b,off,e,lb,_⟩:=(h.has i hi).ds.came.row.at hn;rw [hp] at e;rw [Option.some.inj e];exact lb
 have offx:Off x V.ownBlock:=⟨fun g hgg=>(by rw [hxs] at hgg;cases hgg),fun hn=>by omega⟩
 have apx:∀ y:Cu,Apart y x:=fun y=>⟨fun g h1 h2=>(by rw [hxs] at h2;cases h2),fun g h1 hn=>(by omega),fun g h1=>(by rw [hxs] at h1;cases h1)⟩;have offx':Off x V'.ownBlock:=⟨fun g hgg=>(by rw [hxs] at hgg;cases hgg),fun hn=>by omega⟩
 refine ⟨hr,by rw [List.length_append,List.length_append,h.len];rfl,fun i hi=>?_,fun i hi=>?_,fun i hi=>?_,fun i j hi hj hij=>?_⟩
 all_goals simp only [List.length_append,List.length_cons,List.length_nil] at hi
 ·rw [getD_snoc xs x cu0 i hi,getD_snoc bk c cm0 i (by rw [← h.len];exact hi)];by_cases q:i<xs.length
  ·rw [if_pos q,if_pos (by rw [← h.len];exact q)];exact (h.has i q).kept hg (h.off i q)
  ·rw [if_neg q,if_neg (by rw [← h.len];exact q)];exact hx.kept hg offx
 ·rw [getD_snoc xs x cu0 i hi];by_cases q:i<xs.length
  ·rw [if_pos q];exact hnew _ (h.off i q) (lt1 i q) (lt2 i q)
  ·rw [if_neg q];exact offx'
 ·rw [getD_snoc xs x cu0 i hi];by_cases q:i<xs.length
  ·rw [if_pos q];exact h.self i q
  ·rw [if_neg q];intro g hgg;rw [hxs] at hgg;cases hgg
 ·simp only [List.length_append,List.length_cons,List.length_nil] at hj;rw [getD_snoc xs x cu0 i hi,getD_snoc xs x cu0 j hj];by_cases q:i<xs.length <;> by_cases q':j<xs.length
  ·rw [if_pos q,if_pos q'];exact h.apart i j q q' hij
  ·rw [if_pos q,if_neg q'];exact apx _
  ·rw [if_neg q,if_pos q'];exact (apx _).symm
  ·omega
theorem getD_put {α:Type} (l:List α) (x d:α) (k i:Nat) (hk:k<l.length):(l.set k x).getD i d=if i=k then x else l.getD i d:=by
 by_cases h:i=k
 ·subst h;rw [if_pos rfl];simp [List.getD,hk]
 ·rw [if_neg h];simp [List.getD,List.getElem?_set_ne (Ne.symm h)]
structure Turned (w w':World) (base:Nat) (x x':Cu) (c':Cm):Prop where
 grown:w.grownBy w' x.sold.ownBlock
 has:Has w' base x' c'
 own:∀ g,x'.sold.ownBlock=some g→x.sold.ownBlock=some g∨w.heap.size≤g
 new:0<x'.dn→∀ p,x'.dp=some p→w.heap.size≤p.block
 self:∀ g,x'.sold.ownBlock=some g→0<x'.dn→∀ p,x'.dp=some p→p.block≠g
theorem Holds.put {w w' w4:World} {base:Nat} {V:Value} {xs:List Cu} {bk:List Cm} {k:Nat} {x':Cu} {c':Cm} (h:Holds w base V xs bk) (hk:k<xs.length) (ht:Turned w w' base (xs.getD k cu0) x' c')
  (hr:Lc w4 base V (xs.set k x')) (hg:w'.grownBy w4 V.ownBlock):Holds w4 base V (xs.set k x') (bk.set k c'):=by
 have hkb:k<bk.length:=by rw [← h.len];exact hk
 have lt1:∀ i,i<xs.length→∀ g,(xs.getD i cu0).sold.ownBlock=some g→g<w.heap.size:=fun i hi g hgg=>(World.ownsRow.lt (h.has i hi).so g hgg).2
 have lt2:∀ i,i<xs.length→0<(xs.getD i cu0).dn→∀ p,(xs.getD i cu0).dp=some p→p.block<w.heap.size:=fun i hi hn p hp=>by
  obtain ⟨b,off,e,lb,_⟩:=(h.has i hi).ds.came.row.at hn;rw [hp] at e;rw [Option.some.inj e];exact lb
 have ltV:∀ g,V.ownBlock=some g→g<w.heap.size:=fun g hgg=>(World.ownsRow.lt h.row g hgg).2
 have offx:Off x' V.ownBlock:=⟨fun g hgg q=>by
  rcases ht.own g hgg with e | e
  ·exact (h.off k hk).1 g e q
  ·have:=ltV g q;omega,fun hn p hp q=>by
  have h1:=ht.new hn p hp;have h2:=ltV p.block q.symm
  omega⟩
 have apx:∀ i,i<xs.length→i≠k→Apart (xs.getD i cu0) x':=fun i hi hik=>by
  refine ⟨fun g h1 h2=>?_,fun g h1 hn p hp q=>?_,fun g h1 hn p hp q=>?_⟩
  ·rcases ht.own g h2 with e | e
   ·exact (h.apart i k hi hk hik).1 g h1 e
   ·have:=lt1 i hi g h1;omega
  ·have h3:=ht.new hn p hp;have h4:=lt1 i hi g h1;omega
  ·rcases ht.own g h1 with e | e
   ·exact (h.apart i k hi hk hik).2.2 g e hn p hp q
   ·have:=lt2 i hi hn p hp;omega
 refine ⟨hr,by rw [List.length_set,List.length_set,h.len],fun i hi=>?_,fun i hi=>?_,fun i hi=>?_,fun i j hi hj hij=>?_⟩
 all_goals rw [List.length_set] at hi
 ·rw [getD_put xs x' cu0 k i hk,getD_put bk c' cm0 k i hkb];by_cases q:i=k
  ·rw [if_pos q,if_pos q];exact ht.has.kept hg offx
  ·rw [if_neg q,if_neg q];have ap:=h.apart i k hi hk q
   have off1:Off (xs.getD i cu0) (xs.getD k cu0).sold.ownBlock:=⟨fun g h1 h2=>ap.1 g h1 h2,fun hn p hp e=>by
    exact ap.2.2 p.block e.symm hn p hp rfl⟩
   exact ((h.has i hi).kept ht.grown off1).kept hg (h.off i hi)
 ·rw [getD_put xs x' cu0 k i hk];by_cases q:i=k
  ·rw [if_pos q];exact offx
  ·rw [if_neg q];exact h.off i hi
 ·rw [getD_put xs x' cu0 k i hk];by_cases q:i=k
  ·rw [if_pos q];exact ht.self
  ·rw [if_neg q];exact h.self i hi
 ·rw [List.length_set] at hj;rw [getD_put xs x' cu0 k i hk,getD_put xs x' cu0 k j hk];by_cases q:i=k <;> by_cases q':j=k
  ·omega
  ·rw [if_pos q,if_neg q'];exact (apx j hj q').symm
  ·rw [if_neg q,if_pos q'];exact apx i hi q
  ·rw [if_neg q,if_neg q'];exact h.apart i j hi hj hij
structure Sees (w:World) (p:Option Addr) (n:Nat) (xs:List Cu) (bk:List Cm):Prop where
 row:RowC w p n xs
 len:xs.length=bk.length
 num:∀ i,i<xs.length→Nums (xs.getD i cu0) (bk.getD i cm0).a
 ds:∀ i,i<xs.length→tar.Came w (xs.getD i cu0).dp (xs.getD i cu0).dn (xs.getD i cu0).dc (bk.getD i cm0).a.ds
 so:∀ i,i<xs.length→RowS w (xs.getD i cu0).sp (xs.getD i cu0).sn (bk.getD i cm0).so
theorem Sees.below {w w':World} {p:Option Addr} {n:Nat} {xs:List Cu} {bk:List Cm} (h:Sees w p n xs bk) (hb:Below w.heap.size w w'):Sees w' p n xs bk:=⟨h.row.below hb,h.len,h.num,fun i hi=>(h.ds i hi).below hb,fun i hi=>(h.so i hi).below hb⟩
theorem Holds.sees {w:World} {base:Nat} {V:Value} {xs:List Cu} {bk:List Cm} (h:Holds w base V xs bk):∃ p cap,V = .slice p xs.length cap∧Sees w p xs.length xs bk:=by
 obtain ⟨p,cap,hv,hr,_,_⟩:=h.row.row;refine ⟨p,cap,hv,hr,h.len,fun i hi=>(h.has i hi).num,fun i hi=>(h.has i hi).ds.came,fun i hi=>?_⟩;obtain ⟨a,c,e,r,_⟩:=(h.has i hi).so.row;unfold Cu.sold at e;injection e with e1 e2 _
 rw [e1,e2];exact r
end book
section
open Go.RowKit
theorem wp_letS {P:Program} {ops:Array Oper} {rest:List Oper} {o:Oper} {a:Act} {w:World} {Q:Exit→Act→World→Prop} (hgd:o.guard=none) (ty:TypeId) (x y:Operand) (ho:o.op = .store ty x y)
  (g off:Nat) (hx:a.eval x = .pointer (some ⟨g,off,none⟩)) (p:Option Addr) (n c:Nat) (hy:a.eval y = .slice p n c) (hi:(P.info? ty).map (·.size)=some 1)
  (cs:Array Value) (t:TypeId) (hB:Blk w g cs t) (hin:off<cs.size)
  (h:∀ W,Upd w W g (cs.setIfInBounds off (.slice p n c)) t→wpList P ops Q rest (a.put o.dst undef) W):wpList P ops Q (o :: rest) a w:=
 wp_let hgd ty x y ho g off hx _ hy #[.slice p n c] rfl hi (by simp [Value.oneCell']) cs t hB (by simp;omega) _ rfl h
end
namespace words
open Go.RowKit
theorem pow_min {j:Nat} (hj:¬ j≤64):∃ d,2 ^ j=2 ^ 64*2 ^ d:=⟨j - 64,by rw [← Nat.pow_add];congr 1;omega⟩
theorem sh_down (v j:Nat) (hj:0<j) (hv:v<2 ^ 64):((sh v (-(j:Int)):Nat):Int)=(v:Int) / 2 ^ min j 64:=by
 unfold sh;rw [if_pos (by omega),show (-(-(j:Int))).toNat=j by omega];by_cases h:j≤64
 ·rw [Nat.min_eq_left h];simp
 ·rw [Nat.min_eq_right (by omega)];have h1:v / 2 ^ j=0:=Nat.div_eq_of_lt (Nat.lt_of_lt_of_le hv (Nat.pow_le_pow_right (by decide) (by omega)));rw [h1];omega
theorem sh_up (v:Nat) (k:Int) (hk:0≤k):((sh v k:Nat):Int)=IntKind.u64.wrap ((v:Int)*2 ^ min k.toNat 64):=by
 unfold sh;rw [if_neg (by omega),IntKind.wrap_u64];by_cases h:k.toNat≤64
 ·rw [Nat.min_eq_left h];simp
 ·rw [Nat.min_eq_right (by omega)];obtain ⟨d,hd⟩:=pow_min h;rw [hd,Nat.mul_left_comm,Nat.mul_mod_right];omega
theorem ones_shift (n:Nat) (h0:1≤n) (h1:n≤64):((onesN n:Nat):Int)=18446744073709551615 / 2 ^ (64 - n):=by
 have e:(18446744073709551615:Int) / 2 ^ (64 - n)=((18446744073709551615 / 2 ^ (64 - n):Nat):Int):=by simp
 rw [e]
 congr 1
 unfold onesN;have hp:2 ^ 64=2 ^ n*2 ^ (64 - n):=by rw [← Nat.pow_add];congr 1;omega
 have h2:0<2 ^ (64 - n):=Nat.two_pow_pos _;have h3:0<2 ^ n:=Nat.two_pow_pos _;symm;apply Nat.div_eq_of_lt_le
 ·have:(2 ^ n - 1)*2 ^ (64 - n)=2 ^ 64 - 2 ^ (64 - n):=by rw [hp,Nat.sub_mul,Nat.one_mul]
  omega
 ·have:(2 ^ n - 1+1)*2 ^ (64 - n)=2 ^ 64:=by rw [hp,Nat.sub_add_cancel h3]
  omega
theorem shift_any (v:Nat) (k:Int) (w:World) (hv:v<2 ^ 64) (k0:-96≤k) (k1:k≤96) :
  Calls Tryz.prog 60 #[.int .u64 (v:Int),zI k] w fun e w'=>e = .returned (.int .u64 (sh v k:Nat))∧w'=w:=by
 by_cases h:k<0
 ·obtain ⟨j,rfl⟩:∃ j:Nat,k=-(j:Int):=⟨(-k).toNat,by omega⟩
  have hj:0<j:=by omega
  have e:=sh_down v j hj hv;have e2:-(-(j:Int))=(j:Int):=by omega
  rw [e];clear e;go_enter Tryz.func60,Tryz.ntmps60;go_wp2;go_ret;exact ⟨rfl,rfl⟩
 ·have e:=sh_up v k (by omega);rw [e];clear e;go_enter Tryz.func60,Tryz.ntmps60;go_wp2;go_ret;exact ⟨rfl,rfl⟩
theorem ones_any (n:Nat) (w:World) (h0:1≤n) (h1:n≤64) :
  Calls Tryz.prog 61 #[zI (n:Int)] w fun e w'=>e = .returned (.int .u64 (onesN n:Nat))∧w'=w:=by
 rw [ones_shift n h0 h1];go_enter Tryz.func61,Tryz.ntmps61;go_wp2;go_ret;exact ⟨rfl,rfl⟩
theorem isField_yes (lo n:Int) (w:World) (h0:0≤lo) (h1:1≤n) (h2:n≤64) (h3:lo≤96 - n) :
  Calls Tryz.prog 59 #[zI lo,zI n] w fun e w'=>e = .returned (.bool true)∧w'=w:=by
 go_enter Tryz.func59,Tryz.ntmps59;go_wp2;go_ret;exact ⟨rfl,rfl⟩
end words
namespace disk
open Go.RowKit cell
def KReplay:Prop:=∀ (W:World) (a:Option Addr) (n cap:Nat) (c:List Int),RowU W a n c→(a=none→cap=0)→n≤cap→n*4≤140737488351232→(∀ x∈c,0≤x∧x<4294967296)→Calls Tryz.prog 72 #[.slice a n cap] W fun e w'=>RepNew W c e w'
end disk
namespace deb
open tar (Du du0 Came TwoPost)
open Go.RowKit
def KdAge:Prop:=∀ (W:World) (a:Option Addr) (len cap:Nat) (ls:List Du) (m:Int),Came W a len cap ls→(Lit.int .i64 m).wf=true→Calls Tryz.prog 152 #[.slice a len cap,zI m] W fun e w'=>AgePost W ls m e w'
open tar (RowD Ld ErrPost PairT)
theorem debtT:PairT Tryz.prog 83 59:=⟨by kernel_rfl,Tryz.underlying59⟩
end deb
namespace tar
theorem ov_before {l:List Du} (h:Right l) (x y z:Int) (k j:Nat) (hk:k<l.length) (hj:j<k) (hy:low l k≤y) (hz:low l k≤z):ov (low l j) (l.getD j du0).a x z=ov (low l j) (l.getD j du0).a x y:=by
 have h1:=low_mono h (j+1) k (by omega) (by omega);rw [low_next] at h1;unfold ov;omega
theorem costK_before {l:List Du} (h:Right l) (x y z:Int) (k j:Nat) (hk:k<l.length) (hj:j≤k) (hy:low l k≤y) (hz:low l k≤z):costK l x z j=costK l x y j:=by
 induction j with
 | zero=>rfl
 | succ j ih=>rw [costK_next,costK_next,ih (by omega),ov_before h x y z k j hk (by omega) hy hz]
theorem costK_behind {l:List Du} (h:Right l) (x z:Int) (k j:Nat) (hkj:k≤j) (hj:j≤l.length) (hz:z≤low l k):costK l x z j=costK l x z k:=by
 induction j with
 | zero=>
  have:k=0:=by omega
  subst this;rfl
 | succ j ih=>
  by_cases e:k=j+1
  ·subst e;rfl
  ·have h1:=ih (by omega) (by omega);have h2:=low_mono h k j (by omega) (by omega);rw [costK_next,h1,show ov (low l j) (l.getD j du0).a x z=0 by unfold ov;omega];omega
theorem cost_part {l:List Du} (h:Right l) (x y:Int) (hx:0≤x) (hxy:x≤y) (k:Nat) (hk:k<l.length) (q:Int) (hq:0≤q) (hq2:q≤ov (low l k) (l.getD k du0).a x y) (hp:0<ov (low l k) (l.getD k du0).a x y) :
  cost l x (x+(manyK l x y k+q))=costK l x y k+q*(l.getD k du0).b:=by
 have h1:=many_eq h x y hx hxy k (by omega);have h2:=h.rise k hk;have h3:=h.low_pos k (by omega);have hlo:low l k≤y:=by unfold ov at hp;omega
 have hz:low l k≤x+(manyK l x y k+q):=by rw [h1];omega
 have hz2:x+(manyK l x y k+q)≤low l (k+1):=by rw [h1,low_next];unfold ov at hq2 hp;omega
 unfold cost;rw [costK_behind h x _ (k+1) l.length (by omega) (Nat.le_refl _) hz2,costK_next,costK_before h x y _ k k hk (Nat.le_refl _) hlo hz];rw [show ov (low l k) (l.getD k du0).a x (x+(manyK l x y k+q))=q by rw [h1];unfold ov at hq2 hp ⊢;omega]
theorem bill_at (l:List Du) (x y:Int) (n:Nat) (p:List Tr) (t:Tr) (h:p++[t] <+: billK l x y n):∃ k,k<n∧p=billK l x y k∧0<ov (low l k) (l.getD k du0).a x y∧t=⟨ov (low l k) (l.getD k du0).a x y,(l.getD k du0).b,ov (low l k) (l.getD k du0).a x y*(l.getD k du0).b⟩:=by
 induction n with
 | zero=>
  have:=h.length_le;simp [billK] at this
 | succ n ih=>
  by_cases hp:0<ov (low l n) (l.getD n du0).a x y
  ·rw [billK_yes l x y n hp] at h;rcases List.prefix_concat_iff.1 h with h | h
   ·obtain ⟨h1,h2⟩:=List.append_inj' h rfl;exact ⟨n,by omega,h1,hp,by simpa using h2⟩
   ·obtain ⟨k,a,b⟩:=ih h;exact ⟨k,by omega,b⟩
  ·rw [billK_no l x y n hp] at h;obtain ⟨k,a,b⟩:=ih h;exact ⟨k,by omega,b⟩
theorem top_bd {x:Int} (hx:0≤x∧x≤10000000):0≤Top x∧x+Top x≤10000000:=by unfold Top;omega
theorem most_all {l:List Du} (h:Right l) (x m:Int) (hx:0≤x∧x≤10000000) (hm:sumC (billK l x (x+Top x) l.length)≤m):MostOf l x m (sumA (billK l x (x+Top x) l.length))∧sumC (billK l x (x+Top x) l.length)=cost l x (x+sumA (billK l x (x+Top x) l.length)):=by
 have ht:=top_bd hx;have h1:=bill_sums l x (x+Top x) l.length;have h2:=many_all h x (x+Top x) hx.1 (by omega) ht.2;have e:sumA (billK l x (x+Top x) l.length)=Top x:=by rw [h1.1,h2];omega
 have e2:sumC (billK l x (x+Top x) l.length)=cost l x (x+Top x):=h1.2;rw [e,e2];rw [e2] at hm;exact ⟨⟨⟨ht.1,Int.le_refl _⟩,hm,.inl rfl⟩,rfl⟩
theorem most_cut {l:List Du} (h:Right l) (x m q:Int) (hx:0≤x∧x≤10000000) (p:List Tr) (t:Tr) (hpre:p++[t] <+: billK l x (x+Top x) l.length) (hq0:0≤q) (hq:q<t.a) (h1:sumC p+q*t.b≤m) (h2:m<sumC p+(q+1)*t.b) :
  MostOf l x m (sumA p+q)∧sumC p+q*t.b=cost l x (x+(sumA p+q)):=by
 have ht:=top_bd hx;obtain ⟨k,hk,rfl,hp,rfl⟩:=bill_at l x (x+Top x) l.length p t hpre;have hs:=bill_sums l x (x+Top x) k;rw [hs.1,hs.2];rw [hs.2] at h1 h2;dsimp only at hq h1 h2 ⊢;have e1:=cost_part h x (x+Top x) hx.1 (by omega) k hk q hq0 (by omega) hp;have e2:=cost_part h x (x+Top x) hx.1 (by omega) k hk (q+1) (by omega) (by omega) hp;have hb:=many_bd h x (x+Top x) hx.1 (by omega) k (by omega);have hb2:=many_bd h x (x+Top x) hx.1 (by omega) (k+1) (by omega);rw [many_next] at hb2;rw [e1];refine ⟨⟨⟨by omega,by omega⟩,by rw [e1];exact h1,.inr ?_⟩,rfl⟩;rw [show manyK l x (x+Top x) k+q+1=manyK l x (x+Top x) k+(q+1) by omega,e2];exact h2
theorem sums_bd (l:List Tr) (h:∀ t∈l,LineOk t):(0≤sumA l∧sumA l≤(l.length:Int)*10000000)∧0≤sumC l:=by
 induction l with
 | nil=>exact ⟨⟨Int.le_refl _,Int.le_refl _⟩,Int.le_refl _⟩
 | cons t l ih=>
  have h1:=ih fun x hx=>h x (List.mem_cons_of_mem _ hx);obtain ⟨a1,a2,a3,a4,a5⟩:=h t List.mem_cons_self;have h2:=prod_bd (show 0≤t.a by omega) a2 a3 a4;rw [← a5] at h2;have e:((t :: l).length:Int)=(l.length:Int)+1:=by simp
  rw [e,Int.add_mul];exact ⟨⟨by show 0≤t.a+sumA l;omega,by show t.a+sumA l≤_;omega⟩,by show 0≤t.c+sumC l;omega⟩
theorem quo_bd {d p q:Int} (hd:0≤d) (hp:1≤p) (hq:d / p=q):0≤q∧q*p≤d∧d<(q+1)*p∧q≤d:=by
 subst hq;have h1:=Int.ediv_nonneg hd (show 0≤p by omega);have h2:=Int.mul_ediv_self_le (x:=d) (k:=p) (by omega);have h3:=Int.lt_mul_ediv_self_add (x:=d) (k:=p) (by omega);have h4:d / p≤d:=Int.ediv_le_self _ hd;rw [Int.mul_comm] at h2 h3;exact ⟨h1,h2,by rw [Int.add_mul];omega,h4⟩
theorem snoc_one {p:List Ln} {t:Ln}:lns (p++[t])=lns p++[t.1]:=by rw [lns_app];rfl
theorem sums_one (p:List Ln) (t:Ln):sumA (lns (p++[t]))=sumA (lns p)+t.1.a∧sumC (lns (p++[t]))=sumC (lns p)+t.1.c:=by
 rw [snoc_one,sumA_app,sumC_app];exact ⟨by show _+(t.1.a+0)=_;omega,by show _+(t.1.c+0)=_;omega⟩
open Go.RowKit
def KtMost:Prop:=∀ (W:World) (a:Option Addr) (len cap:Nat) (ls:List Du) (x n:Int),Came W a len cap ls→(Lit.int .i64 x).wf=true→(Lit.int .i64 n).wf=true→Calls Tryz.prog 125 #[.slice a len cap,zI x,zI n] W fun e w'=>ThreePost W (MostIs ls x n) e w'
end tar
namespace acc
open tar (Du)
open Go.RowKit
def KcGrant:Prop:=∀ (W:World) (x:Ac) (p:Option Addr) (len cap:Nat) (t:Tm) (pt:Option Addr) (lt ct:Nat) (m:Int),ACame W x p len cap→TCame W t pt lt ct→(Lit.int .i64 m).wf=true→Calls Tryz.prog 48 #[x.v p len cap,t.v pt lt ct,zI m] W fun e w'=>BPost W (GrantIs x t m) e w'
def KcOwe:Prop:=∀ (W:World) (x:Ac) (p:Option Addr) (len cap:Nat) (q:Du),ACame W x p len cap→(Lit.int .i64 q.a).wf=true∧(Lit.int .i64 q.b).wf=true→Calls Tryz.prog 46 #[x.v p len cap,.agg #[zI q.a,zI q.b]] W fun e w'=>APost W (OweIs x q) e w'
end acc
end Go.Proofs.YtdpfnedfakgolaaGreatDoor
