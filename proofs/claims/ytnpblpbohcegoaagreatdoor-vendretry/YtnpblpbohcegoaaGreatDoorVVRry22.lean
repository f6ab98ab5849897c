import Derived.Test.YtnpblpbohcegoaaGreatDoorVVRry19
import Derived.Test.YtnpblpbohcegoaaGreatDoorVVRry20
import Derived.Test.YtnpblpbohcegoaaGreatDoorVVRry21
set_option linter.unusedVariables false
set_option linter.unusedSimpArgs false
set_option maxHeartbeats 4000000
set_option maxRecDepth 100000
namespace Go.Proofs.YtnpblpbohcegoaaGreatDoor
namespace vnd
open book (Ev ev0 Cm cm0 So so0 Sees)
open acc (Ac Tm Bi)
open ora (Pr)
open cell (Wr RowU RowW)
open rcp (Rc rc0)
open Go.RowKit
def TokGot (w:World) (R:List Wr→List Pr→Rc→Int→Prop) (e:Ending) (w':World):Prop:=∃ p m cp ls p5 n5 c5 o' r f,e = .returned (.tuple #[.slice p m cp,.agg #[.slice p5 n5 c5],rcp.Rc.v r,zI f])∧R ls o' r f∧RowW w' p m ls∧(∀ x,p=some x→w.heap.size≤x.block)∧m≤cp∧m≤100000∧ora.RowP w' p5 n5 o'∧(p5=none→c5=0)∧n5≤c5∧(∀ y,p5=some y→w.heap.size≤y.block)∧Below w.heap.size w w'
theorem blk_new4 (w:World) (o p q r:Obj) (cs:Array Value) (t:TypeId):Blk (((((w.alloc o).alloc p).alloc q).alloc r).alloc (.cells cs t)) (w.heap.size+1+1+1+1) cs t:=by
 have h:=Blk.new ((((w.alloc o).alloc p).alloc q).alloc r) cs t
 rwa [show ((((w.alloc o).alloc p).alloc q).alloc r).heap.size=w.heap.size+1+1+1+1 by simp] at h
theorem blk_new5 (w:World) (o p q r s:Obj) (cs:Array Value) (t:TypeId):Blk ((((((w.alloc o).alloc p).alloc q).alloc r).alloc s).alloc (.cells cs t)) (w.heap.size+1+1+1+1+1) cs t:=by
 have h:=Blk.new (((((w.alloc o).alloc p).alloc q).alloc r).alloc s) cs t
 rwa [show (((((w.alloc o).alloc p).alloc q).alloc r).alloc s).heap.size=w.heap.size+1+1+1+1+1 by simp] at h
end vnd
namespace cell
open Go.RowKit
theorem apply_cap (a b:Option Addr) (n m c1 c2 k:Nat) (xs:List Int) (ls:List Wr) (w:World) (h1:RowU w a n xs) (h2:RowW w b m ls) (hn:1≤n) (hn2:n≤2048) (hm:m≤4096) (hc:m≤c2) (hall:allN n ls=true) (hk:k≤m) :
  Calls Tryz.prog 22 #[.slice a n c1,.slice b m c2,zI (k:Int)] w fun e w'=>GaveC w (wrt xs (ls.take k)) 0 e w':=by
 have HM:Hid (∀ W,Calls Tryz.prog 46 #[zI (n:Int)] W fun e w'=>e = .returned (.bool true)∧w'=W):=fun W=>may_yes _ W (by omega) (by omega);have hW:=Blk.new w #[.slice a n c1] 25;have HB:Hid (Below w.heap.size w (w.alloc (.cells #[.slice a n c1] 25))):=(Below.refl _ _).alloc (Nat.le_refl _) _;have hx:=hW.cell 0;have HX:Hid (∀ W',Below (w.alloc (.cells #[.slice a n c1] 25)).heap.size (w.alloc (.cells #[.slice a n c1] 25)) W'→W'.cell? ⟨w.heap.size,0,none⟩=some (.slice a n c1)):=fun W' hb=>(hW.next hb).cell 0
 have HC:Hid (Calls Tryz.prog 48 #[.slice b m c2,fv w.heap.size] (w.alloc (.cells #[.slice a n c1] 25)) fun e w'=>e = .returned (.bool false)∧Below (w.alloc (.cells #[.slice a n c1] 25)).heap.size (w.alloc (.cells #[.slice a n c1] 25)) w'):=by
  have h:=contains_any w.heap.size n c1 m c2 a b ls (w.alloc (.cells #[.slice a n c1] 25)) hx hn2 (h2.below HB.o) hm;rw [hall] at h;exact h
 have HW:Hid (∀ W,Below w.heap.size w W→Calls Tryz.prog 49 #[.slice a n c1,.slice b k k] W fun e w'=>∃ g,e = .returned (.slice (some ⟨g,0,none⟩) n n)∧RowU w' (some ⟨g,0,none⟩) n (wrt xs (ls.take k))∧Below W.heap.size W w'):=fun W hb=>
  written_any a b n k c1 k xs (ls.take k) W (h1.below hb) ((h2.below hb).cut hk) hn hn2 (by omega) (allN_take hall k)
 clear h1 h2 hall hW;unfold fv at HC;generalize wrt xs (ls.take k)=zs at *;go_enter Tryz.func22,Tryz.ntmps22;go_wp2_with fail;refine (HM.o _).mono ?_;rintro e w1 ⟨rfl,rfl⟩;go_wp2_with fail;refine HC.o.mono ?_;rintro e w2 ⟨rfl,hb2⟩;have hx2:=HX.o _ hb2;have HB2:=shB HB hb2;have HWD:Hid (Calls Tryz.prog 49 #[.slice a n c1,.slice b k k] w2.drew fun e w'=>∃ g,e = .returned (.slice (some ⟨g,0,none⟩) n n)∧RowU w' (some ⟨g,0,none⟩) n zs∧Below w2.heap.size w2.drew w'):=HW.o _ HB2.o.drew;have KS:Hid (w2.drew.cell? ⟨w.heap.size,0,none⟩=some (.slice a n c1)):=hx2;have hGl:w.heap.size<w2.drew.heap.size:=World.block_lt_of_cell? w2 _ hx2;have HGL:Hid (w.heap.size<w2.heap.size):=hGl;clear hb2 hx HC HM HX HW hGl;have hkc:k≤c2:=by omega
 cases b with
 | none=>
  go_wp2_with fail
  go_region_held (fun v=>v.cell? ⟨w.heap.size,0,none⟩=some (.slice a n c1))
   (first | with_reducible exact KS.o | with_reducible exact K1.o)
   (first
    | (go_at_call 49;with_reducible refine HWD.o.mono ?_;rintro e w3 ⟨g,rfl,hr3,hb3⟩
       have K1:Hid (w3.cell? ⟨w.heap.size,0,none⟩=some (.slice a n c1)):=(hb3.cell (p:=⟨w.heap.size,0,none⟩) HGL.o).trans hx2;have HF:Hid (RowU w3 (some ⟨g,0,none⟩) n zs∧Below w.heap.size w w3):=⟨hr3,bel_step HB2.o.drew hb3⟩
       clear hr3 hb3))
  all_goals go_wp2_with fail
  all_goals
   go_ret2;exact GaveC.mk HF.o.1 (fun h=>by cases h) (Nat.le_refl _) HF.o.2
 | some y=>
  go_wp2_with fail
  go_region_held (fun v=>v.cell? ⟨w.heap.size,0,none⟩=some (.slice a n c1))
   (first | with_reducible exact KS.o | with_reducible exact K1.o)
   (first
    | (go_at_call 49;with_reducible refine HWD.o.mono ?_;rintro e w3 ⟨g,rfl,hr3,hb3⟩
       have K1:Hid (w3.cell? ⟨w.heap.size,0,none⟩=some (.slice a n c1)):=(hb3.cell (p:=⟨w.heap.size,0,none⟩) HGL.o).trans hx2;have HF:Hid (RowU w3 (some ⟨g,0,none⟩) n zs∧Below w.heap.size w w3):=⟨hr3,bel_step HB2.o.drew hb3⟩
       clear hr3 hb3))
  all_goals go_wp2_with fail
  all_goals
   go_ret2;exact GaveC.mk HF.o.1 (fun h=>by cases h) (Nat.le_refl _) HF.o.2
end cell
namespace book
open Go.RowKit
theorem run_neOp {P:Program} {o:Oper} {a:Act} {w:World} (ty rt:TypeId) (x y:Operand) (ho:o.op = .binOp .neq ty x y rt) (ca cb:Array Value) (hx:a.eval x = .agg ca) (hy:a.eval y = .agg cb) (hg:P.eqGuardType P.depth ty=false) (b:Bool)
  (hr:(Op.equalIn 10000 ty (.agg ca) (.agg cb)).run P w = .ok b w):(execOp a.eval o).run P w = .ok (.value (.bool (!b))) w:=by
 have hr':(Op.equal ty (.agg ca) (.agg cb)).run P w = .ok b w:=hr;have hp:∀ w':World,(program:Sem Program).run P w' = .ok P w':=fun _=>rfl;unfold execOp;simp only [ho,hx,hy];simp [eqGuard,hg,binOp,hr',hp,Sem.run_bind]
end book
namespace acc
open tar (Du du0 Came RowD Ld PairT)
open Go.RowKit
theorem grown_blk {w w':World} {own:Option Nat} {G:Nat} {cs:Array Value} {t:TypeId} (h:Blk w G cs t) (hg:w.grownBy w' own) (hne:some G≠own):Blk w' G cs t:=by
 unfold Blk at *;rw [hg.block G (Blk.lt h) hne];exact h
end acc
namespace book
open Go.RowKit
theorem of_caught (ge gn ga:Nat) (f0 m0 a0 f:Int) (hf:f≠0) (w:World) (he:Blk w ge #[zI f0] 27) (hn:Blk w gn #[zI m0] 3) (ha:Blk w ga #[zI a0] 3) (h1:gn≠ge) (h2:ga≠ge) :
  CallsD Tryz.prog 38 #[.pointer (some ⟨ge,0,none⟩),.pointer (some ⟨gn,0,none⟩),.pointer (some ⟨ga,0,none⟩)] (.panicking (thrown f)) w fun e u' w'=>e = .returned (.tuple #[])∧settle u' = .returning∧∃ W W2,Below w.heap.size w W∧Upd W W2 ge #[zI f] 27∧Upd W2 w' ga #[zI m0] 3:=by
 refine callsD_of_wpS Tryz.func38 rfl fun c₀ cs hu=>?_;apply wpS_seq;apply wpS_region;simp only [thrown] at hu;simp [wpOpsS,go_sem,recoverD,hu,Tryz.ntmps38,Exit.thenS];refine (reason_is f w).mono ?_;rintro e w1 ⟨rfl,hb1⟩;have hE:=he.next hb1;have hN:=hn.next hb1;have hA:=ha.next hb1;have hc:w1.cell? ⟨ge,0,none⟩=some (zI f0):=hE.cell 0;have hz:w1.frozen? ⟨ge,0,none⟩=false:=hE.free 0;have hU:Upd w1 (w1.setCell ⟨ge,0,none⟩ (zI f)) ge #[zI f] 27:=upd_cells ge _ [zI f] 0 w1 _ hE;simp [go_sem,hc,hz,Exit.thenS];generalize w1.setCell ⟨ge,0,none⟩ (zI f)=W2 at *;have hE2:=hU.blk;have hN2:=hU.keep hN h1;have hA2:=hU.keep hA h2;have q0:W2.cell? ⟨ge,0,none⟩=some (zI f):=hE2.cell 0;have q1:W2.cell? ⟨gn,0,none⟩=some (zI m0):=hN2.cell 0;have nf:(f != 0)=true:=by simpa using hf
 change Code.wpS _ _ _ { tmps:=#[.pointer (some ⟨ge,0,none⟩),.pointer (some ⟨gn,0,none⟩),.pointer (some ⟨ga,0,none⟩),refV f,zI f,undef,undef,undef],defers:=[] } _ _;apply wpS_of_wp;have HA2:Hid (Blk W2 ga #[zI a0] 3):=hA2;have HU:Hid (Upd w1 W2 ge #[zI f] 27):=hU;have HB:Hid (Below w.heap.size w w1):=hb1;clear hf he hn ha hE hN hA hc hz hU hE2 hN2 hA2 hb1 hu;go_wp2_with (first | (refine wp_let1 rfl 3 _ _ rfl ga 0 rfl .i64 m0 rfl (by kernel_rfl) #[zI a0] 3 HA2.o (by simp) ?_) | fail)
 intro W3 hU3;have HU3:Hid (Upd W2 W3 ga #[zI m0] 3):=hU3;clear hU3;go_wp2_with fail;simp [bodyPostS,results,Tryz.results38,settle];exact ⟨w1,HB.o,W2,HU.o,HU3.o⟩
theorem of_idle (ge gn ga:Nat) (f0:Int) (w:World) (he:Blk w ge #[zI f0] 27) :
  CallsD Tryz.prog 38 #[.pointer (some ⟨ge,0,none⟩),.pointer (some ⟨gn,0,none⟩),.pointer (some ⟨ga,0,none⟩)] .returning w fun e u' w'=>e = .returned (.tuple #[])∧settle u' = .returning∧∃ W,Below w.heap.size w W∧Upd W w' ge #[zI 0] 27:=by
 refine callsD_of_wpS Tryz.func38 rfl fun c₀ cs hu=>?_;apply wpS_seq;apply wpS_region;simp [wpOpsS,go_sem,recoverD,hu,Tryz.ntmps38,Exit.thenS];refine (reason_nil w).mono ?_;rintro e w1 ⟨rfl,rfl⟩;have hc:w1.cell? ⟨ge,0,none⟩=some (zI f0):=he.cell 0;have hz:w1.frozen? ⟨ge,0,none⟩=false:=he.free 0;have hU:Upd w1 (w1.setCell ⟨ge,0,none⟩ (zI 0)) ge #[zI 0] 27:=upd_cells ge _ [zI 0] 0 w1 _ he;simp [go_sem,hc,hz,Exit.thenS];generalize w1.setCell ⟨ge,0,none⟩ (zI 0)=W2 at *;have q0:W2.cell? ⟨ge,0,none⟩=some (zI 0):=hU.blk.cell 0;change Code.wpS _ _ _ { tmps:=#[.pointer (some ⟨ge,0,none⟩),.pointer (some ⟨gn,0,none⟩),.pointer (some ⟨ga,0,none⟩),.nilIface,zI 0,undef,undef,undef],defers:=[] } _ _;apply wpS_of_wp;have HU:Hid (Upd w1 W2 ge #[zI 0] 27):=hU;have HH:Hid (c₀.mode = .returning):=hu;clear he hc hz hU hu;go_wp2_with fail;have hu:=HH.o;have hU:=HU.o;simp [bodyPostS,results,Tryz.results38,hu,settle];exact ⟨.returning,(by cases c₀;simp_all),rfl,w1,Below.refl _ _,hU⟩
def KOf:Prop:=∀ (W:World) (t:acc.Tm) (pt:Option Addr) (lt ct:Nat) (pl:Option Addr) (n cap:Nat) (l:List Ev),acc.TCame W t pt lt ct→ECame W pl n cap l→Calls Tryz.prog 17 #[t.v pt lt ct,.slice pl n cap] W fun e w'=>BookPost W t l e w'
end book
namespace words
open Go.RowKit
theorem sh_lt (v:Nat) (k:Int) (hv:v<2 ^ 64):sh v k<2 ^ 64:=by
 unfold sh;split
 ·exact Nat.lt_of_le_of_lt (Nat.div_le_self _ _) hv
 ·exact Nat.mod_lt _ (by decide)
theorem ones_lt (n:Nat) (h:n≤64):onesN n<2 ^ 64:=by
 unfold onesN;have:=Nat.pow_le_pow_right (show 0<2 by decide) h;have h2:0<2 ^ n:=Nat.two_pow_pos _;omega
theorem idx0 (x y z:Int) (w:World):(Instr.index 131 (.agg #[.int .u32 x,.int .u32 y,.int .u32 z]) (zI 0)).run Tryz.prog w = .ok (.int .u32 x) w:=by kernel_rfl
theorem idx1 (x y z:Int) (w:World):(Instr.index 131 (.agg #[.int .u32 x,.int .u32 y,.int .u32 z]) (zI 1)).run Tryz.prog w = .ok (.int .u32 y) w:=by kernel_rfl
theorem idx2 (x y z:Int) (w:World):(Instr.index 131 (.agg #[.int .u32 x,.int .u32 y,.int .u32 z]) (zI 2)).run Tryz.prog w = .ok (.int .u32 z) w:=by kernel_rfl
theorem bits_any (a b c lo n:Nat) (w:World) (ha:a<2 ^ 32) (hb:b<2 ^ 32) (hc:c<2 ^ 32) (n0:1≤n) (n1:n≤64) (hl:lo+n≤96) :
  Calls Tryz.prog 186 #[.agg #[.int .u32 (a:Int),.int .u32 (b:Int),.int .u32 (c:Int)],zI (lo:Int),zI (n:Int)] w fun e w'=>e = .returned (.tuple #[.int .u64 (bitsN a b c lo n:Nat),zI 0])∧Below w.heap.size w w':=by
 have a1:(a:Int)<4294967296:=by omega
 have b1:(b:Int)<4294967296:=by omega
 have c1:(c:Int)<4294967296:=by omega
 have HB:Hid (Below w.heap.size w (w.alloc (.cells #[.int .u32 (a:Int),.int .u32 (b:Int),.int .u32 (c:Int)] 131))):=(Below.refl _ w).alloc (Nat.le_refl _) _;have hE:bitsN a b c lo n=(sh a (-(lo:Int)) ||| sh b (32 - (lo:Int)) ||| sh c (64 - (lo:Int))) &&& onesN n:=by unfold bitsN;rw [Int.zero_sub]
 have HE:Hid (bitsN a b c lo n=(sh a (-(lo:Int)) ||| sh b (32 - (lo:Int)) ||| sh c (64 - (lo:Int))) &&& onesN n):=hE;clear hE;have i0:=idx0 (a:Int) (b:Int) (c:Int);have i1:=idx1 (a:Int) (b:Int) (c:Int);have i2:=idx2 (a:Int) (b:Int) (c:Int);go_enter Tryz.func186,Tryz.ntmps186;go_wp2_with fail;refine (isField_yes _ _ _ (by omega) (by omega) (by omega) (by omega)).mono ?_;rintro e wr ⟨rfl,rfl⟩;go_wp2_with fail;refine wp_loop_rounds 4 ?_;rw [rounds_succ];go_wp2_with fail;refine (shift_any a _ _ (by omega) (by omega) (by omega)).mono ?_;rintro e wr ⟨rfl,rfl⟩
 have o1:bits .or .u64 0 ((sh a (-(lo:Int)):Nat):Int)=((sh a (-(lo:Int)):Nat):Int):=by
  have:=or64 0 (sh a (-(lo:Int))) (by decide) (sh_lt _ _ (by omega));simpa using this
 have l0:sh a (-(lo:Int))<2 ^ 64:=sh_lt _ _ (by omega);generalize sh a (-(lo:Int))=s0 at *;go_wp2_with fail;rw [rounds_succ];go_wp2_with fail;refine (shift_any b _ _ (by omega) (by omega) (by omega)).mono ?_;rintro e wr ⟨rfl,rfl⟩;have l1:sh b (32 - (lo:Int))<2 ^ 64:=sh_lt _ _ (by omega);have o2:=or64 s0 (sh b (32 - (lo:Int))) l0 l1;have l01:=Nat.or_lt_two_pow l0 l1;clear o1;generalize sh b (32 - (lo:Int))=s1 at *;go_wp2_with fail;rw [rounds_succ];go_wp2_with fail;refine (shift_any c _ _ (by omega) (by omega) (by omega)).mono ?_;rintro e wr ⟨rfl,rfl⟩;have l2:sh c (64 - (lo:Int))<2 ^ 64:=sh_lt _ _ (by omega);have o3:=or64 (s0 ||| s1) (sh c (64 - (lo:Int))) l01 l2;have l02:=Nat.or_lt_two_pow l01 l2;clear o2;generalize sh c (64 - (lo:Int))=s2 at *;go_wp2_with fail;rw [rounds_succ];go_wp2_with fail;refine (ones_any n _ (by omega) (by omega)).mono ?_;rintro e wr ⟨rfl,rfl⟩;have ln:onesN n<2 ^ 64:=ones_lt n (by omega);have o4:=and64 (s0 ||| s1 ||| s2) (onesN n) l02 ln;clear o3;go_wp2_with fail;go_ret2;exact ⟨by rw [HE.o];rfl,HB.o⟩
end words
namespace token
open words
open Go.RowKit
structure WN (a b c V:Nat):Prop where
 a1:a<2 ^ 32
 b1:b<2 ^ 32
 c1:c<2 ^ 32
 val:bigV a b c=V
theorem wn_zero:WN 0 0 0 0:=⟨by decide,by decide,by decide,rfl⟩
def loP:Nat→Nat
 | 0=>57
 | 1=>37
 | 2=>16
 | _=>0
def nP:Nat→Nat
 | 0=>3
 | 1=>20
 | 2=>21
 | _=>16
def vP (k:Tok):Nat→Nat
 | 0=>k.c
 | 1=>k.i
 | 2=>k.a
 | _=>k.t
def pP (k:Tok):Nat→Nat
 | 0=>0
 | 1=>k.c*144115188075855872
 | 2=>k.c*144115188075855872+k.i*137438953472
 | 3=>k.c*144115188075855872+k.i*137438953472+k.a*65536
 | _=>k.num
theorem step_P {k:Tok} (h:k.ok) (j:Nat) (hj:j<4):vP k j<2 ^ nP j∧1≤nP j∧nP j≤64∧loP j+nP j≤96∧pP k j / 2 ^ loP j % 2 ^ nP j=0∧pP k (j+1)=pP k j+vP k j*2 ^ loP j∧vP k j<9223372036854775808:=by
 have:=h.c3;have:=h.i2;have:=h.t2;have:=h.a2
 match j,hj with
 | 0,_=>exact ⟨by show k.c<8;omega,by decide,by decide,by decide,by show 0 / _ % _=0;simp,by show k.c*144115188075855872=0+k.c*144115188075855872;omega,by show k.c<_;omega⟩
 | 1,_=>exact ⟨by show k.i<1048576;omega,by decide,by decide,by decide,by show k.c*144115188075855872 / 137438953472 % 1048576=0;omega,by show k.c*144115188075855872+k.i*137438953472=k.c*144115188075855872+k.i*137438953472;rfl,by show k.i<_;omega⟩
 | 2,_=>exact ⟨by show k.a<2097152;omega,by decide,by decide,by decide,by show (k.c*144115188075855872+k.i*137438953472) / 65536 % 2097152=0;omega,by show k.c*144115188075855872+k.i*137438953472+k.a*65536=k.c*144115188075855872+k.i*137438953472+k.a*65536;rfl,by show k.a<_;omega⟩
 | 3,_=>exact ⟨by show k.t<65536;omega,by decide,by decide,by decide,by show (k.c*144115188075855872+k.i*137438953472+k.a*65536) / 1 % 65536=0;omega,by show k.num=k.c*144115188075855872+k.i*137438953472+k.a*65536+k.t*1;unfold Tok.num;omega,by show k.t<_;omega⟩
theorem wrap_u (v:Nat) (h:v<9223372036854775808):IntKind.u64.wrap (v:Int)=(v:Int):=by rw [IntKind.wrap_u64];omega
theorem idxP (j:Nat) (hj:j<4) (w:World) :
  (Instr.index 231 (.agg #[zI 57,zI 3,zI 37,zI 20,zI 16,zI 21,zI 0,zI 16]) (zI (j:Int))).run Tryz.prog w = .ok (.agg #[zI (loP j:Int),zI (nP j:Int)]) w:=by
 rcases (by omega:j=0∨j=1∨j=2∨j=3) with rfl | rfl | rfl | rfl
 ·kernel_rfl
 ·kernel_rfl
 ·kernel_rfl
 ·kernel_rfl
theorem bits_wn (a b c lo n V:Nat) (w:World) (h:WN a b c V) (n0:1≤n) (n1:n≤64) (hl:lo+n≤96) :
  Calls Tryz.prog 186 #[.agg #[.int .u32 (a:Int),.int .u32 (b:Int),.int .u32 (c:Int)],zI (lo:Int),zI (n:Int)] w fun e w'=>e = .returned (.tuple #[.int .u64 (V / 2 ^ lo % 2 ^ n:Nat),zI 0])∧Below w.heap.size w w':=by
 have:=bits_any a b c lo n w h.a1 h.b1 h.c1 n0 n1 hl
 rwa [bits_num h.a1 h.b1 h.c1 n1,h.val] at this
theorem wrap_i (v:Nat) (h:v<9223372036854775808):IntKind.i64.wrap (v:Int)=(v:Int):=by rw [IntKind.wrap_i64];omega
end token
section
open Go.RowKit
structure WQ (P : Program) (ops : Array Oper) (C : World → Prop) (Q : Act → Prop) (l : List Oper) (a : Act) : Prop where
 out : wpQuiet P ops C Q l a
theorem wq_nil {P : Program} {ops : Array Oper} {C : World → Prop} {Q : Act → Prop} {a : Act} (h : Q a) : WQ P ops C Q [] a := ⟨h⟩
theorem wq_step {P : Program} {ops : Array Oper} {C : World → Prop} {Q : Act → Prop} {a : Act} {o : Oper} {rest : List Oper}
  (h : ∀ K : Act → Prop, (∀ a, WQ P ops C Q rest a → K a) → if Region.wanted o (yielded ops a.tmps) then o.quiet P a C K else K (a.put o.dst undef)) : WQ P ops C Q (o :: rest) a :=
 ⟨wpQuiet_step fun K hK => h K fun a ha => hK a ha.out⟩
theorem wq_skip {P : Program} {ops : Array Oper} {C : World → Prop} {Q : Act → Prop} {a : Act} {o : Oper} {rest : List Oper} (hw : Region.wanted o (yielded ops a.tmps) = false) (h : WQ P ops C Q rest (a.put o.dst undef)) : WQ P ops C Q (o :: rest) a := by
 refine ⟨?_⟩
 unfold wpQuiet
 rw [if_neg (by rw [hw]; decide)]
 exact h.out
theorem wq_below {P : Program} {id : Nat} {Q : Exit → Act → World → Prop} {a : Act} {w : World} {l : List Oper} (hm : P.follows .mixedOrders = true) (hB : Region.lexB .any l.toArray = true)
  (h : WQ P l.toArray (fun w' => ∃ p : Regrown, w' = Sort.grow (redrawn w p.d) p.os) (fun a' => ∀ w', (∃ p : Regrown, w' = Sort.grow (redrawn w p.d) p.os) → Q .normal a' w') l a) : (Code.region id l.toArray true).wp P Q a w :=
 wp_region_quiet_below hm hB h.out
end
namespace words
open Go.RowKit
theorem run_timesStep (args:Array Value) (w:World):(callFunc 130 args).run Tryz.prog w = .ok (.enter 130 args) w:=by kernel_rfl
theorem times_any (x:W3) (m:Int) (w:World) (hx:x.ok) (m0:0≤m) (m1:m<4294967296) :
  Calls Tryz.prog 86 #[wv x,.int .u32 m] w fun e w'=>e = .returned (.tuple #[wv (timesW x m),.int .u32 (timesO x m)])∧Below w.heap.size w w':=by
 obtain ⟨x0,x1,x2⟩:=x;obtain ⟨⟨h0,h0'⟩,⟨h1,h1'⟩,h2,h2'⟩:=hx;simp only at h0 h0' h1 h1' h2 h2';go_enter Tryz.func86,Tryz.ntmps86;go_wp2_with fail;obtain ⟨p0,p0'⟩:=prod_bd h0 h0' m0 m1;obtain ⟨p1,p1'⟩:=prod_bd h1 h1' m0 m1;obtain ⟨p2,p2'⟩:=prod_bd h2 h2' m0 m1;have hc:=trio_d w #[.int .u32 x0,.int .u32 x1,.int .u32 x2] (.int .u32 m) 99 (.int .u32 0) (.int .u32 0) (.int .u32 0) (.int .u64 0) 223;have hb3:=bel4 w (.cells #[.int .u32 x0,.int .u32 x1,.int .u32 x2] 131) (.cells #[.int .u32 m] 99) (.cells #[.int .u32 0,.int .u32 0,.int .u32 0] 131) (.cells #[.int .u64 0] 223);have e0:(0:Int)+x0*m=x0*m:=by omega
 refine (upward_any 130 #[.pointer (some ⟨w.heap.size+1+1+1,0,none⟩),.pointer (some ⟨w.heap.size+1,0,none⟩)] (w.heap.size+1+1+1) (.int .u64 0) (.int .u64 ((x0*m) / 4294967296)) (.int .u64 (((x0*m) / 4294967296+x1*m) / 4294967296)) (.int .u64 ((((x0*m) / 4294967296+x1*m) / 4294967296+x2*m) / 4294967296)) x0 x1 x2
  ((x0*m) % 4294967296) (((x0*m) / 4294967296+x1*m) % 4294967296) ((((x0*m) / 4294967296+x1*m) / 4294967296+x2*m) % 4294967296) _ (Acc.refl hc.1 hc.2.1) run_timesStep
  (fun w' h=>by have:=timesStep_any (w.heap.size+1+1+1) (w.heap.size+1) 0 x0 m w' h.cell h.free (h.keep hc.2.2.2 (by omega)) (by omega) (by omega) h0 h0' m0 m1;rw [e0] at this;exact this)
  (fun w' h=>timesStep_any _ _ _ _ _ w' h.cell h.free (h.keep hc.2.2.2 (by omega)) (by omega) (by omega) h1 h1' m0 m1)
  (fun w' h=>timesStep_any _ _ _ _ _ w' h.cell h.free (h.keep hc.2.2.2 (by omega)) (by omega) (by omega) h2 h2' m0 m1)).mono ?_
 rintro e w1 ⟨he,hA⟩;have hR:Trio w1 (w.heap.size+1+1) (.int .u32 0) (.int .u32 0) (.int .u32 0):=hc.2.2.1.acc hA (by omega);have HB:Hid (Below w.heap.size w w1):=hA.below hb3 (by omega);have hcell:=hA.cell;have hsz:w.heap.size+1+1+1<w1.heap.size:=Nat.lt_of_lt_of_le hA.old hA.size;have EW:wv (timesW ⟨x0,x1,x2⟩ m) = .agg #[.int .u32 ((x0*m) % 4294967296),.int .u32 (((x0*m) / 4294967296+x1*m) % 4294967296),.int .u32 ((((x0*m) / 4294967296+x1*m) / 4294967296+x2*m) % 4294967296)]:=rfl;have EO:timesO ⟨x0,x1,x2⟩ m=(((x0*m) / 4294967296+x1*m) / 4294967296+x2*m) / 4294967296:=rfl;have z0:0≤(((x0*m) / 4294967296+x1*m) / 4294967296+x2*m) / 4294967296:=by omega
 have z1:(((x0*m) / 4294967296+x1*m) / 4294967296+x2*m) / 4294967296<4294967296:=by omega
 have HE:Hid (.returned (.tuple #[wv (timesW ⟨x0,x1,x2⟩ m),.int .u32 (timesO ⟨x0,x1,x2⟩ m)])=Ending.returned (.tuple #[.agg #[.int .u32 ((x0*m) % 4294967296),.int .u32 (((x0*m) / 4294967296+x1*m) % 4294967296),.int .u32 ((((x0*m) / 4294967296+x1*m) / 4294967296+x2*m) % 4294967296)],.int .u32 ((((x0*m) / 4294967296+x1*m) / 4294967296+x2*m) / 4294967296)])):=by
  have:Ending.returned (.tuple #[wv (timesW ⟨x0,x1,x2⟩ m),.int .u32 (timesO ⟨x0,x1,x2⟩ m)])=Ending.returned (.tuple #[.agg #[.int .u32 ((x0*m) % 4294967296),.int .u32 (((x0*m) / 4294967296+x1*m) % 4294967296),.int .u32 ((((x0*m) / 4294967296+x1*m) / 4294967296+x2*m) % 4294967296)],.int .u32 ((((x0*m) / 4294967296+x1*m) / 4294967296+x2*m) / 4294967296)]):=by rw [EW,EO]
  exact this
 clear hA hc hb3 EW EO e0 p0 p0' p1 p1' p2 p2';have HE2:Hid (e = .returned (.agg #[.int .u32 ((x0*m) % 4294967296),.int .u32 (((x0*m) / 4294967296+x1*m) % 4294967296),.int .u32 ((((x0*m) / 4294967296+x1*m) / 4294967296+x2*m) % 4294967296)])):=he;clear he;generalize hz:(((x0*m) / 4294967296+x1*m) / 4294967296+x2*m) / 4294967296=z at hcell z0 z1 HE HE2;generalize hy0:(x0*m) % 4294967296=y0 at HE HE2;generalize hy1:((x0*m) / 4294967296+x1*m) % 4294967296=y1 at HE HE2;generalize hy2:(((x0*m) / 4294967296+x1*m) / 4294967296+x2*m) % 4294967296=y2 at HE HE2;clear hz hy0 hy1 hy2;obtain rfl:=HE2.o;clear HE2;have hR:=hR.alloc (.cells #[.int .u32 y0,.int .u32 y1,.int .u32 y2] 131);have r0:=hR.c0;have r1:=hR.c1;have r2:=hR.c2;have g0:=hR.free 0;have g1:=hR.free 1;have g2:=hR.free 2;have HR:Hid (Trio (w1.alloc (.cells #[.int .u32 y0,.int .u32 y1,.int .u32 y2] 131)) (w.heap.size+1+1) (.int .u32 0) (.int .u32 0) (.int .u32 0)):=hR;clear hR;go_wp2_with fail;go_region
 all_goals go_wp2_with fail
 have RR:=((HR.o.set0 (.int .u32 y0)).set1 (.int .u32 y1)).set2 (.int .u32 y2);refine bodyPost_ret (v:= .tuple #[.agg #[.int .u32 y0,.int .u32 y1,.int .u32 y2],.int .u32 z]) (by simp [results,Tryz.results86,RR.c0,RR.c1,RR.c2,go_sem]) rfl ⟨HE.o.symm,?_⟩;exact below_put (HB.o.alloc HB.o.size _) _ _ _ _ _ _ _ (by omega)
end words
namespace vnd
open disk (RepIs AppIs)
open book (Ev ev0 EMay evL evOf EncIs DecIs Cm cm0 So so0 BookIs Sees ECame FirstAt NoneAt)
open acc (Ac Tm Bi TCame ACame)
open cell (Wr RowU)
open Go.RowKit
theorem rowP_off {w W:World} {g:Nat} {v':Array Value} {T':TypeId} {p:Option Addr} {n:Nat} {l:List ora.Pr} (h:ora.RowP w p n l) (hg:∀ y,p=some y→y.block≠g) (hU:Upd w W g v' T'):ora.RowP W p n l:=by
 refine ⟨h.1,?_⟩;rcases h.2 with h0 | ⟨b,off,rfl,hc⟩
 ·exact .inl h0
 ·refine .inr ⟨b,off,rfl,fun i hi=>?_⟩;have hne:b≠g:=hg _ rfl;have h1:=hc i hi;unfold ora.PrAt at h1 ⊢;have hx:∀ o,W.cell? ⟨b,o,none⟩=w.cell? ⟨b,o,none⟩:=fun o=>hU.cell ⟨b,o,none⟩ hne rfl;simpa only [hx] using h1
end vnd
end Go.Proofs.YtnpblpbohcegoaaGreatDoor
