import Derived.Test.YtnpblpbohcegoaaGreatDoorVBNrs8
import Derived.Test.YtnpblpbohcegoaaGreatDoorVBNrs9
set_option linter.unusedVariables false
set_option linter.unusedSimpArgs false
set_option maxHeartbeats 4000000
set_option maxRecDepth 100000
namespace Go.Proofs.YtnpblpbohcegoaaGreatDoor
namespace rcp
structure Rc where
 me:Int
 id:Int
 te:Int
 de:Int
 fe:Int
 pr:Int
 ch:Int
 un:Int
 tk:List UInt8
def rc0:Rc:=⟨0,0,0,0,0,0,0,0,[]⟩
open Go.RowKit
def Rc.cs (r:Rc):Array Value:=#[zI r.me,zI r.id,zI r.te,zI r.de,zI r.fe,zI r.pr,zI r.ch,zI r.un,.string ⟨r.tk.toArray⟩]
def Rc.v (r:Rc):Value:= .agg r.cs
end rcp
namespace acc
open tar (Du du0 Right MostOf cost Top)
open deb (sumD recK ageAll)
open Go.RowKit
theorem tright_wf {t:Tm} (h:TRight t):wf4 t:=by
 obtain ⟨_,⟨a1,a2⟩,⟨b1,b2⟩,⟨c1,c2⟩,d1,d2⟩:=h;exact ⟨tar.wf_mid a1 (by omega),tar.wf_mid b1 (by omega),tar.wf_mid c1 (by omega),tar.wf_mid d1 (by omega)⟩
theorem rec_bd {te db:Int} (h0:0≤te) (h1:te≤100000000) (h2:0≤db) (h3:db≤10000):0≤te*db / 10000∧te*db / 10000≤te:=by
 have a:=Int.mul_nonneg h0 h2;have b:te*db≤te*10000:=Int.mul_le_mul_of_nonneg_left h3 h0;omega
theorem most_cost {l:List Du} {x m u:Int} (h:Right l) (hx:0≤x) (hu:MostOf l x m u) (h1:1≤u):0<cost l x (x+u)∧cost l x (x+u)≤m∧x+u≤10000000∧u≤2097151:=by
 have h2:=hu.1.2;have h3:=tar.cost_bd h x (x+u) hx (by omega) (by unfold Top at h2;omega);exact ⟨by omega,hu.2.1,by unfold Top at h2;omega,by unfold Top at h2;omega⟩
theorem mays_sum {l:List Du} (h:deb.Mays l):0≤sumD l∧sumD l≤8000000000:=by
 have h1:=deb.sumD_pos (l:=l) (deb.mem_fits h.2);have h2:=h.1;exact ⟨h1.1,by have:=h1.2;omega⟩
end acc
namespace disk
open Go.RowKit cell
def Wds (c:List Int):Prop:=∀ x∈c,0≤x∧x<4294967296
theorem wds_zero (n:Nat):Wds (List.replicate n 0):=fun x hx=>by
 rw [(List.mem_replicate.1 hx).2];decide
theorem wds_at {c:List Int} (h:Wds c) (j:Nat):0≤c.getD j 0∧c.getD j 0<4294967296:=by
 by_cases hj:j<c.length
 ·have e:c.getD j 0=c[j]:=by simp [List.getD,List.getElem?_eq_getElem hj]
  rw [e];exact h _ (List.getElem_mem hj)
 ·have e:c.getD j 0=0:=by simp [List.getD,List.getElem?_eq_none (Nat.le_of_not_lt hj)]
  rw [e];decide
theorem wds_set {c:List Int} (h:Wds c) (k:Nat) (x:Int) (hx:0≤x∧x<4294967296):Wds (c.set k x):=fun y hy=>by
 rcases List.mem_or_eq_of_mem_set hy with hy | rfl
 ·exact h y hy
 ·exact hx
def WrsOk (l:List Wr):Prop:=∀ e∈l,0≤e.d∧e.d<4294967296
theorem wds_wrt {c:List Int} (h:Wds c) (l:List Wr) (hl:WrsOk l):Wds (wrt c l):=by
 induction l generalizing c with
 | nil=>exact h
 | cons e l ih=>exact ih (wds_set h _ _ (hl e List.mem_cons_self)) fun x hx=>hl x (List.mem_cons_of_mem _ hx)
theorem wrs_put {r:List Int} (hr:Wds r) (a k:Nat):WrsOk (putW a r k):=by
 induction k with
 | zero=>intro e he;cases he
 | succ k ih=>
  intro e he;rcases List.mem_append.1 he with h | h
  ·exact ih e h
  ·rw [List.mem_singleton.1 h];exact wds_at hr k
theorem wrs_app {c r:List Int} (hr:Wds r) (hm:RMay r) (a:Nat):WrsOk (appW c a r):=by
 intro e he;unfold appW at he;rcases List.mem_append.1 he with h | h
 ·exact wrs_put hr a _ e h
 ·rcases List.mem_append.1 h with h | h
  ·unfold zeroW at h;split at h
   ·rw [List.mem_singleton.1 h];exact ⟨Int.le_refl _,by show (0:Int)<4294967296;decide⟩
   ·cases h
  ·rw [List.mem_singleton.1 h];have:=hm.2;exact ⟨by show (0:Int)≤(r.length:Int);omega,by show (r.length:Int)<_;omega⟩
theorem wrs_take {l:List Wr} (h:WrsOk l) (k:Nat):WrsOk (l.take k):=fun e he=>h e (List.mem_of_mem_take he)
theorem put_in {r:List Int} (a k n:Nat) (hn:a+k<n):cell.allN n (putW a r k)=true:=by
 induction k with
 | zero=>rfl
 | succ k ih=>exact cell.allN_snoc (ih (by omega)) ⟨by show (0:Int)≤((a+k+1:Nat):Int);omega,by show ((a+k+1:Nat):Int)<(n:Int);omega⟩
theorem app_in (c r:List Int) (a:Nat) (h:a+r.length<c.length):cell.allN c.length (appW c a r)=true:=by
 unfold appW;rw [← List.append_assoc];refine cell.allN_snoc ?_ ⟨by show (0:Int)≤(a:Int);omega,by show (a:Int)<(c.length:Int);omega⟩;unfold zeroW;split
 ·exact cell.allN_snoc (put_in a _ _ h) ⟨by show (0:Int)≤((a+r.length+1:Nat):Int);omega,by show ((a+r.length+1:Nat):Int)<(c.length:Int);omega⟩
 ·rw [List.append_nil];exact put_in a _ _ h
def Room (sl:List Sli):Prop:=∀ s∈sl,s.n≤s.c∧s.n≤20
theorem Room.at {sl:List Sli} (h:Room sl) (i:Nat) (hi:i<sl.length):(sl.getD i sl0).n≤(sl.getD i sl0).c∧(sl.getD i sl0).n≤20:=by
 have e:sl.getD i sl0=sl[i]:=by simp [List.getD,List.getElem?_eq_getElem hi]
 rw [e];exact h _ (List.getElem_mem hi)
end disk
namespace tar
theorem getD_snoc (Z:List Du) (r:Du) (i:Nat):(Z++[r]).getD i du0=if i<Z.length then Z.getD i du0 else if i=Z.length then r else du0:=by
 by_cases h:i<Z.length
 ·rw [if_pos h];simp [List.getD,List.getElem?_append_left h]
 ·rw [if_neg h];by_cases h2:i=Z.length
  ·subst h2;simp [List.getD]
  ·rw [if_neg h2];have:(Z++[r])[i]?=none:=List.getElem?_eq_none (by simp;omega);simp [List.getD,this]
structure Grow (Z:List Du) (k:Nat) (up:Int):Prop where
 len:Z.length=k
 fit:∀ i,i<k→(1≤(Z.getD i du0).a∧(Z.getD i du0).a≤up)∧1≤(Z.getD i du0).b∧(Z.getD i du0).b≤100000
 rise:∀ i,1≤i→i<k→(Z.getD (i - 1) du0).a<(Z.getD i du0).a
 low:0≤up
 top:up≤(k:Int)*1000000
theorem Grow.zero:Grow [] 0 0:=⟨rfl,fun i hi=>absurd hi (Nat.not_lt_zero _),fun i _ hi=>absurd hi (Nat.not_lt_zero _),by decide,by decide⟩
theorem Grow.step {Z:List Du} {k:Nat} {up d p:Int} (h:Grow Z k up) (d1:1≤d) (d2:d≤1000000) (p1:1≤p) (p2:p≤100000):Grow (Z++[⟨up+d,p⟩]) (k+1) (up+d):=by
 have h0:=h.low;refine ⟨by rw [List.length_append,h.len];rfl,fun i hi=>?_,fun i h1 hi=>?_,by omega,?_⟩
 ·rw [getD_snoc,h.len];by_cases e:i<k
  ·rw [if_pos e];have:=h.fit i e;exact ⟨⟨this.1.1,by omega⟩,this.2⟩
  ·rw [if_neg e,if_pos (by omega)];exact ⟨⟨by show 1≤up+d;omega,Int.le_refl _⟩,p1,p2⟩
 ·rw [getD_snoc,getD_snoc,h.len];by_cases e:i<k
  ·rw [if_pos (by omega),if_pos e];exact h.rise i h1 e
  ·rw [if_pos (by omega),if_neg e,if_pos (by omega)];have:=(h.fit (i - 1) (by omega)).1.2;show _<up+d;omega
 ·have:=h.top;omega
theorem Grow.right {Z:List Du} {k:Nat} {up p:Int} (h:Grow Z k up) (hk:k≤7) (p1:1≤p) (p2:p≤100000):Right (Z++[⟨10000000,p⟩]):=by
 have h0:=h.low;have h1:=h.top;have hl:(Z++[(⟨10000000,p⟩:Du)]).length=k+1:=by rw [List.length_append,h.len];rfl
 refine ⟨⟨by rw [hl];omega,by rw [hl];omega⟩,fun i hi=>?_,fun i h1 hi=>?_,?_⟩
 ·rw [hl] at hi;rw [getD_snoc,h.len];by_cases e:i<k
  ·rw [if_pos e];have:=h.fit i e;exact ⟨⟨this.1.1,by omega⟩,this.2⟩
  ·rw [if_neg e,if_pos (by omega)];exact ⟨⟨(by decide:(1:Int)≤10000000),Int.le_refl _⟩,p1,p2⟩
 ·rw [hl] at hi;rw [getD_snoc,getD_snoc,h.len];by_cases e:i<k
  ·rw [if_pos (by omega),if_pos e];exact h.rise i h1 e
  ·rw [if_pos (by omega),if_neg e,if_pos (by omega)];have:=(h.fit (i - 1) (by omega)).1.2;show _<(10000000:Int);omega
 ·unfold Ends;rw [hl,show k+1 - 1=k by omega,getD_snoc,h.len,if_neg (by omega),if_pos rfl]
end tar
section
open Go.RowKit
theorem wp_letS {P:Program} {ops:Array Oper} {rest:List Oper} {o:Oper} {a:Act} {w:World} {Q:Exit→Act→World→Prop} (hgd:o.guard=none) (ty:TypeId) (x y:Operand) (ho:o.op = .store ty x y)
  (g off:Nat) (hx:a.eval x = .pointer (some ⟨g,off,none⟩)) (p:Option Addr) (n c:Nat) (hy:a.eval y = .slice p n c) (hi:(P.info? ty).map (·.size)=some 1)
  (cs:Array Value) (t:TypeId) (hB:Blk w g cs t) (hin:off<cs.size)
  (h:∀ W,Upd w W g (cs.setIfInBounds off (.slice p n c)) t→wpList P ops Q rest (a.put o.dst undef) W):wpList P ops Q (o :: rest) a w:=
 wp_let hgd ty x y ho g off hx _ hy #[.slice p n c] rfl hi (by simp [Value.oneCell']) cs t hB (by simp;omega) _ rfl h
end
namespace token
def hasI (lo hi n:Int):Bool:=decide (lo≤n) && decide (n≤hi)
def amLo (c:Int):Int:=if c=0 then 1 else if c=1 then 0 else if c=2 then 1 else 0
def amHi (c:Int):Int:=if c=0 then 2097151 else if c=1 then 0 else if c=2 then 15 else 0
def flawT (c i a t:Int):Int:=if c<0∨3<c then 9 else if hasI 1 1048575 i && (hasI (amLo c) (amHi c) a && hasI 0 65535 t) then 0 else 2
theorem flawT_class {c i a t:Int} (h:c<0∨3<c):flawT c i a t=9:=by unfold flawT;rw [if_pos h]
theorem flawT_in {c i a t:Int} (h:¬ (c<0∨3<c)):flawT c i a t=if hasI 1 1048575 i && (hasI (amLo c) (amHi c) a && hasI 0 65535 t) then 0 else 2:=by unfold flawT;rw [if_neg h]
theorem flaw_tok {k:Tok}:flawT k.c k.i k.a k.t=0↔k.ok:=by
 rw [← okB_ok];unfold flawT okB hasI amLo amHi;rcases (by omega:k.c=0∨k.c=1∨k.c=2∨k.c=3∨4≤k.c) with h | h | h | h | h
 ·simp [h];omega
 ·simp [h];omega
 ·simp [h];omega
 ·simp [h];omega
 ·have h1:(3:Int)<(k.c:Int):=by omega
  have h2:¬ k.c≤3:=by omega
  simp [h1,h2]
open Go.RowKit
theorem Eight.cell {w:World} {g:Nat} {a0 a1 a2 a3 a4 a5 a6 a7:Int} (h:Eight w g a0 a1 a2 a3 a4 a5 a6 a7) :
  w.cell? ⟨g,0,none⟩=some (zI a0)∧w.cell? ⟨g,1,none⟩=some (zI a1)∧w.cell? ⟨g,2,none⟩=some (zI a2)∧w.cell? ⟨g,3,none⟩=some (zI a3) ∧
  w.cell? ⟨g,4,none⟩=some (zI a4)∧w.cell? ⟨g,5,none⟩=some (zI a5)∧w.cell? ⟨g,6,none⟩=some (zI a6)∧w.cell? ⟨g,7,none⟩=some (zI a7):=by
 obtain ⟨t,fr,h⟩:=h;simp [World.cell?,h]
theorem has_any (lo hi n:Int) (w:World) :
  Calls Tryz.prog 128 #[.agg #[zI lo,zI hi],zI n] w fun e w'=>e = .returned (.bool (hasI lo hi n))∧Below w.heap.size w w':=by
 have hb:Below w.heap.size w (w.alloc (.cells #[zI lo,zI hi] 221)):=(Below.refl _ _).alloc (Nat.le_refl _) _;by_cases h:lo≤n
 ·have e:hasI lo hi n=decide (n≤hi):=by simp [hasI,h]
  rw [e];go_enter Tryz.func128,Tryz.ntmps128;go_wp2;go_ret;exact ⟨rfl,hb⟩
 ·have e:hasI lo hi n=false:=by simp [hasI,h]
  have h':n<lo:=by omega
  rw [e];go_enter Tryz.func128,Tryz.ntmps128;go_wp2;go_ret;exact ⟨rfl,hb⟩
end token
namespace words
open Go.RowKit
theorem sh_lt (v:Nat) (k:Int) (hv:v<2 ^ 64):sh v k<2 ^ 64:=by
 unfold sh;split
 ·exact Nat.lt_of_le_of_lt (Nat.div_le_self _ _) hv
 ·exact Nat.mod_lt _ (by decide)
theorem ones_lt (n:Nat) (h:n≤64):onesN n<2 ^ 64:=by
 unfold onesN;have:=Nat.pow_le_pow_right (show 0<2 by decide) h;have h2:0<2 ^ n:=Nat.two_pow_pos _;omega
theorem idx0 (x y z:Int) (w:World):(Instr.index 131 (.agg #[.int .u32 x,.int .u32 y,.int .u32 z]) (zI 0)).run Tryz.prog w = .ok (.int .u32 x) w:=by kernel_rfl
theorem idx1 (x y z:Int) (w:World):(Instr.index 131 (.agg #[.int .u32 x,.int .u32 y,.int .u32 z]) (zI 1)).run Tryz.prog w = .ok (.int .u32 y) w:=by kernel_rfl
theorem idx2 (x y z:Int) (w:World):(Instr.index 131 (.agg #[.int .u32 x,.int .u32 y,.int .u32 z]) (zI 2)).run Tryz.prog w = .ok (.int .u32 z) w:=by kernel_rfl
theorem bits_any (a b c lo n:Nat) (w:World) (ha:a<2 ^ 32) (hb:b<2 ^ 32) (hc:c<2 ^ 32) (n0:1≤n) (n1:n≤64) (hl:lo+n≤96) :
  Calls Tryz.prog 186 #[.agg #[.int .u32 (a:Int),.int .u32 (b:Int),.int .u32 (c:Int)],zI (lo:Int),zI (n:Int)] w fun e w'=>e = .returned (.tuple #[.int .u64 (bitsN a b c lo n:Nat),zI 0])∧Below w.heap.size w w':=by
 have a1:(a:Int)<4294967296:=by omega
 have b1:(b:Int)<4294967296:=by omega
 have c1:(c:Int)<4294967296:=by omega
 have HB:Hid (Below w.heap.size w (w.alloc (.cells #[.int .u32 (a:Int),.int .u32 (b:Int),.int .u32 (c:Int)] 131))):=(Below.refl _ w).alloc (Nat.le_refl _) _;have hE:bitsN a b c lo n=(sh a (-(lo:Int)) ||| sh b (32 - (lo:Int)) ||| sh c (64 - (lo:Int))) &&& onesN n:=by unfold bitsN;rw [Int.zero_sub]
 have HE:Hid (bitsN a b c lo n=(sh a (-(lo:Int)) ||| sh b (32 - (lo:Int)) ||| sh c (64 - (lo:Int))) &&& onesN n):=hE;clear hE;have i0:=idx0 (a:Int) (b:Int) (c:Int);have i1:=idx1 (a:Int) (b:Int) (c:Int);have i2:=idx2 (a:Int) (b:Int) (c:Int);go_enter Tryz.func186,Tryz.ntmps186;go_wp2_with fail;refine (isField_yes _ _ _ (by omega) (by omega) (by omega) (by omega)).mono ?_;rintro e wr ⟨rfl,rfl⟩;go_wp2_with fail;refine wp_loop_rounds 4 ?_;rw [rounds_succ];go_wp2_with fail;refine (shift_any a _ _ (by omega) (by omega) (by omega)).mono ?_;rintro e wr ⟨rfl,rfl⟩
 have o1:bits .or .u64 0 ((sh a (-(lo:Int)):Nat):Int)=((sh a (-(lo:Int)):Nat):Int):=by
  have:=or64 0 (sh a (-(lo:Int))) (by decide) (sh_lt _ _ (by omega));simpa using this
 have l0:sh a (-(lo:Int))<2 ^ 64:=sh_lt _ _ (by omega);generalize sh a (-(lo:Int))=s0 at *;go_wp2_with fail;rw [rounds_succ];go_wp2_with fail;refine (shift_any b _ _ (by omega) (by omega) (by omega)).mono ?_;rintro e wr ⟨rfl,rfl⟩;have l1:sh b (32 - (lo:Int))<2 ^ 64:=sh_lt _ _ (by omega);have o2:=or64 s0 (sh b (32 - (lo:Int))) l0 l1;have l01:=Nat.or_lt_two_pow l0 l1;clear o1;generalize sh b (32 - (lo:Int))=s1 at *;go_wp2_with fail;rw [rounds_succ];go_wp2_with fail;refine (shift_any c _ _ (by omega) (by omega) (by omega)).mono ?_;rintro e wr ⟨rfl,rfl⟩;have l2:sh c (64 - (lo:Int))<2 ^ 64:=sh_lt _ _ (by omega);have o3:=or64 (s0 ||| s1) (sh c (64 - (lo:Int))) l01 l2;have l02:=Nat.or_lt_two_pow l01 l2;clear o2;generalize sh c (64 - (lo:Int))=s2 at *;go_wp2_with fail;rw [rounds_succ];go_wp2_with fail;refine (ones_any n _ (by omega) (by omega)).mono ?_;rintro e wr ⟨rfl,rfl⟩;have ln:onesN n<2 ^ 64:=ones_lt n (by omega);have o4:=and64 (s0 ||| s1 ||| s2) (onesN n) l02 ln;clear o3;go_wp2_with fail;go_ret2;exact ⟨by rw [HE.o];rfl,HB.o⟩
end words
namespace token
open words
open Go.RowKit
structure WN (a b c V:Nat):Prop where
 a1:a<2 ^ 32
 b1:b<2 ^ 32
 c1:c<2 ^ 32
 val:bigV a b c=V
theorem wn_zero:WN 0 0 0 0:=⟨by decide,by decide,by decide,rfl⟩
def loP:Nat→Nat
 | 0=>57
 | 1=>37
 | 2=>16
 | _=>0
def nP:Nat→Nat
 | 0=>3
 | 1=>20
 | 2=>21
 | _=>16
def vP (k:Tok):Nat→Nat
 | 0=>k.c
 | 1=>k.i
 | 2=>k.a
 | _=>k.t
def pP (k:Tok):Nat→Nat
 | 0=>0
 | 1=>k.c*144115188075855872
 | 2=>k.c*144115188075855872+k.i*137438953472
 | 3=>k.c*144115188075855872+k.i*137438953472+k.a*65536
 | _=>k.num
theorem step_P {k:Tok} (h:k.ok) (j:Nat) (hj:j<4):vP k j<2 ^ nP j∧1≤nP j∧nP j≤64∧loP j+nP j≤96∧pP k j / 2 ^ loP j % 2 ^ nP j=0∧pP k (j+1)=pP k j+vP k j*2 ^ loP j∧vP k j<9223372036854775808:=by
 have:=h.c3;have:=h.i2;have:=h.t2;have:=h.a2
 match j,hj with
 | 0,_=>exact ⟨by show k.c<8;omega,by decide,by decide,by decide,by show 0 / _ % _=0;simp,by show k.c*144115188075855872=0+k.c*144115188075855872;omega,by show k.c<_;omega⟩
 | 1,_=>exact ⟨by show k.i<1048576;omega,by decide,by decide,by decide,by show k.c*144115188075855872 / 137438953472 % 1048576=0;omega,by show k.c*144115188075855872+k.i*137438953472=k.c*144115188075855872+k.i*137438953472;rfl,by show k.i<_;omega⟩
 | 2,_=>exact ⟨by show k.a<2097152;omega,by decide,by decide,by decide,by show (k.c*144115188075855872+k.i*137438953472) / 65536 % 2097152=0;omega,by show k.c*144115188075855872+k.i*137438953472+k.a*65536=k.c*144115188075855872+k.i*137438953472+k.a*65536;rfl,by show k.a<_;omega⟩
 | 3,_=>exact ⟨by show k.t<65536;omega,by decide,by decide,by decide,by show (k.c*144115188075855872+k.i*137438953472+k.a*65536) / 1 % 65536=0;omega,by show k.num=k.c*144115188075855872+k.i*137438953472+k.a*65536+k.t*1;unfold Tok.num;omega,by show k.t<_;omega⟩
theorem wrap_u (v:Nat) (h:v<9223372036854775808):IntKind.u64.wrap (v:Int)=(v:Int):=by rw [IntKind.wrap_u64];omega
theorem idxP (j:Nat) (hj:j<4) (w:World) :
  (Instr.index 231 (.agg #[zI 57,zI 3,zI 37,zI 20,zI 16,zI 21,zI 0,zI 16]) (zI (j:Int))).run Tryz.prog w = .ok (.agg #[zI (loP j:Int),zI (nP j:Int)]) w:=by
 rcases (by omega:j=0∨j=1∨j=2∨j=3) with rfl | rfl | rfl | rfl
 ·kernel_rfl
 ·kernel_rfl
 ·kernel_rfl
 ·kernel_rfl
end token
namespace vnd
open ora (Pr)
open cell (Wr RowW)
open Go.RowKit
theorem rowP_upd {w W:World} {g:Nat} {cs:Array Value} {T:TypeId} {p:Option Addr} {n:Nat} {l:List Pr} (h:ora.RowP w p n l) (hU:Upd w W g cs T) (hg:0<n→∀ y,p=some y→y.block≠g):ora.RowP W p n l:=by
 refine ⟨h.1,?_⟩;rcases h.2 with h0 | ⟨b,off,rfl,hc⟩
 ·exact .inl h0
 ·refine .inr ⟨b,off,rfl,fun i hi=>?_⟩;have hne:b≠g:=hg (by omega) _ rfl;obtain ⟨h0,h1,h2,h3⟩:=hc i hi;exact ⟨by rw [hU.cell _ hne rfl];exact h0,by rw [hU.cell _ hne rfl];exact h1,by rw [hU.cell _ hne rfl];exact h2,by rw [hU.cell _ hne rfl];exact h3⟩
theorem rowW_upd {w W:World} {g:Nat} {cs:Array Value} {T:TypeId} {p:Option Addr} {n:Nat} {l:List Wr} (h:RowW w p n l) (hU:Upd w W g cs T) (hg:0<n→∀ y,p=some y→y.block≠g):RowW W p n l:=by
 refine ⟨h.1,?_⟩;rcases h.2 with h0 | ⟨b,off,rfl,hc⟩
 ·exact .inl h0
 ·refine .inr ⟨b,off,rfl,fun i hi=>?_⟩;have hne:b≠g:=hg (by omega) _ rfl;rw [hU.cell _ hne rfl,hU.cell _ hne rfl];exact hc i hi
theorem rowP_lt {w:World} {p:Option Addr} {n:Nat} {l:List Pr} (h:ora.RowP w p n l):0<n→∀ y,p=some y→y.block<w.heap.size:=fun hn y hy=>by
 obtain ⟨b,off,h8,l8,_⟩:=h.at hn;rw [h8] at hy;cases hy;exact l8
end vnd
namespace disk
open Go.RowKit cell
theorem rec_at {c:List Int} {p m x:Nat} (hm:(c.getD p 0).toNat=m) (hx:x<m):(recAt c p).getD x 0=c.getD (p+1+x) 0:=by
 unfold recAt;rw [hm];simp [List.getD,List.getElem?_drop,hx]
theorem rec_len {c:List Int} {p m:Nat} (hm:(c.getD p 0).toNat=m) (hf:p+m<c.length):(recAt c p).length=m:=by
 unfold recAt;rw [hm,List.length_take,List.length_drop];omega
end disk
namespace book
open Go.RowKit
theorem eqI (d:Nat) (a b:Int) (w:World):(Op.equalIn (d+1) 3 (zI a) (zI b)).run Tryz.prog w = .ok (a == b) w:=run_equalIn_int w d _ _ _ a b Tryz.underlying3
end book
namespace acc
open tar (Du du0 Came RowD Ld PairT)
open Go.RowKit
theorem awithin (lo hi n:Int) (w:World):Calls Tryz.prog 69 #[zI lo,zI hi,zI n] w fun e w'=>e = .returned (.bool (decide (lo≤n∧n≤hi)))∧w'=w:=by
 by_cases h1:lo≤n
 ·by_cases h2:n≤hi
  ·have h3:decide (lo≤n∧n≤hi)=true:=by simp;omega
   rw [h3];clear h3;go_enter Tryz.func69,Tryz.ntmps69;go_wp2;go_ret;exact ⟨rfl,rfl⟩
  ·have h3:decide (lo≤n∧n≤hi)=false:=by simp;omega
   have h4:decide (n≤hi)=false:=by simp;omega
   rw [h3];clear h3 h2;go_enter Tryz.func69,Tryz.ntmps69;go_wp2;go_ret;exact ⟨rfl,rfl⟩
 ·have h3:decide (lo≤n∧n≤hi)=false:=by simp;omega
  have h4:decide (lo≤n)=false:=by simp;omega
  rw [h3];clear h3 h1;go_enter Tryz.func69,Tryz.ntmps69;go_wp2;go_ret;exact ⟨rfl,rfl⟩
end acc
namespace deb
open tar (Du du0 Came RowD Ld ErrPost TwoPost PairT)
open Go.RowKit
theorem grow_more {b x:Int} (hx:0≤x) (hx1:x≤1000000000) (hb:0≤b):grow b x=x+min (x*b / 10000) (1000000000 - x):=by
 unfold grow;have:=Int.mul_nonneg hx hb;generalize x*b=p at *;omega
theorem pgrowth (x b:Int) (w:World) (hx:0≤x∧x≤1000000000) (hb:0≤b∧b≤10000):Calls Tryz.prog 206 #[.agg #[zI x,zI b]] w fun e w'=>e = .returned (zI (min (x*b / 10000) (1000000000 - x)))∧Below w.heap.size w w':=by
 have HPA:Hid (∀ W,Calls Tryz.prog 165 #[zI x,zI b] W fun e w'=>e = .returned (.tuple #[zI (x*b / 10000),zI 0])∧Below W.heap.size W w'):=fun W=>cents.part_yes x b W hx.1 (by omega) hb.1 hb.2;have HBX:Hid (Blk (w.alloc (.cells #[zI x,zI b] 70)) w.heap.size #[zI x,zI b] 70):=Blk.new w _ _;have HBW:Hid (Below w.heap.size w (w.alloc (.cells #[zI x,zI b] 70))):=(Below.refl _ _).alloc (Nat.le_refl _) _;obtain ⟨hx0,hx1⟩:=hx;clear hb;have hmin:=tar.run_min (x*b / 10000) (1000000000 - x) _ rfl;generalize x*b / 10000=q at *;generalize min q (1000000000 - x)=m at *;go_enter Tryz.func206,Tryz.ntmps206;go_wp2_with fail;refine (HPA.o _).mono ?_;rintro e w1 ⟨rfl,hb1⟩;have HB1:=shB HBW hb1;have c0:w1.cell? ⟨w.heap.size,0,none⟩=some (zI x):=(HBX.o.next hb1).cell 0;have c1:w1.cell? ⟨w.heap.size,1,none⟩=some (zI b):=(HBX.o.next hb1).cell 1;clear hb1 HPA HBX HBW;go_wp2_with fail;go_ret;exact ⟨rfl,HB1.o⟩
theorem debtT:PairT Tryz.prog 70 49:=⟨by kernel_rfl,Tryz.underlying49⟩
theorem powed (a:Option Addr) (len cap:Nat) (ls:List Du) (w:World) (hr:RowD w a len ls) (hm:Mays ls):Calls Tryz.prog 200 #[.slice a len cap] w fun e w'=>e = .returned (zI (sumD ls))∧Below w.heap.size w w':=by
 have HLEN:Hid (ls.length=len):=hr.1;have HM:Hid (Mays ls):=hm;have hl8:len≤8:=by have:=hm.1;have:=hr.1;omega
 have HROW:Hid (RowD w a len ls):=hr;clear hm hr;go_enter Tryz.func200,Tryz.ntmps200;go_wp2_with fail;go_loopw [3,8] (fun v x wr=>∃ k:Nat,k≤len∧x=zI (k:Int)∧v=zI (sumK ls k)∧Below w.heap.size w wr) (fun _ x _=>len - (intOf x).toNat)
 case atStart=>exact ⟨0,Nat.zero_le _,rfl,rfl,Below.refl _ _⟩
 case round=>
  obtain ⟨k,hk,rfl,rfl,hb⟩:=hrel;have hsb:=sumK_bd HM.o k (by rw [HLEN.o];exact hk);have HB:Hid (Below w.heap.size w wr):=hb;by_cases hlt:k<len
  ·have hdl:decide ((k:Int)<(len:Int))=true:=by simp;omega
   obtain ⟨b,off,rfl,hbl,hc⟩:=HROW.o.at (by omega);have c0:wr.cell? ⟨b,off+k*2,none⟩=some (zI (ls.getD k du0).a):=(hb.cell (p:=⟨b,off+k*2,none⟩) hbl).trans (hc k hlt).1;have c1:wr.cell? ⟨b,off+k*2+1,none⟩=some (zI (ls.getD k du0).b):=(hb.cell (p:=⟨b,off+k*2+1,none⟩) hbl).trans (hc k hlt).2;have HBA:Hid (∀ o,Below w.heap.size w (wr.alloc o)):=fun o=>hb.alloc hb.size o;have ho:=(HM.o.2 k (by rw [HLEN.o];exact hlt)).1;have HN:Hid (sumK ls k+(ls.getD k du0).a=sumK ls (k+1)):=(sumK_next ls k).symm;clear hc hb;generalize sumK ls k=s at *;generalize (ls.getD k du0).a=x at *;generalize (ls.getD k du0).b=y at *;go_wp2_with fail;go_roundw
   case rel=>exact ⟨k+1,by omega,by go_num,by rw [← HN.o],HBA.o _⟩
   case measure=>simp [intOf];omega
  ·obtain rfl:k=len:=by omega
   have hdl:decide ((k:Int)<(k:Int))=false:=by simp
   have HV:Hid (sumK ls k=sumD ls):=by have:=sumK_all ls;rw [HLEN.o] at this;exact this
   generalize sumK ls k=s at *;clear hb;go_wp2_with fail;go_ret;exact ⟨congrArg (fun z=>Ending.returned (Value.int .i64 z)) HV.o,HB.o⟩
end deb
namespace acc
open tar (Du)
open Go.RowKit
def KcGrant:Prop:=∀ (W:World) (x:Ac) (p:Option Addr) (len cap:Nat) (t:Tm) (pt:Option Addr) (lt ct:Nat) (m:Int),ACame W x p len cap→TCame W t pt lt ct→(Lit.int .i64 m).wf=true→Calls Tryz.prog 77 #[x.v p len cap,t.v pt lt ct,zI m] W fun e w'=>BPost W (GrantIs x t m) e w'
end acc
end Go.Proofs.YtnpblpbohcegoaaGreatDoor
