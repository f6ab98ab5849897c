import Derived.Test.YtnpblpbohcegoaaGreatDoorVVRts17
import Derived.Test.YtnpblpbohcegoaaGreatDoorVVRts24
import Derived.Test.YtnpblpbohcegoaaGreatDoorVVRts26
set_option linter.unusedVariables false
set_option linter.unusedSimpArgs false
set_option maxHeartbeats 4000000
set_option maxRecDepth 100000
namespace Go.Proofs.YtnpblpbohcegoaaGreatDoor
namespace book
open Go.RowKit
theorem cellsE_app (l m:List Ev):cellsE (l++m)=cellsE l++cellsE m:=by
 induction l with
 | nil=>rfl
 | cons e l ih=>rw [List.cons_append,cellsE,cellsE,ih,List.append_assoc]
def Le (w:World) (base:Nat) (v:Value) (l:List Ev):Prop:=w.ownsRow base 72 13 v l.length (cellsE l)
theorem Le.zero (w:World) (base:Nat):Le w base (zS) []:=World.ownsRow_nil _ _ _ _
theorem Le.alloc {w:World} {base:Nat} {v:Value} {l:List Ev} (h:Le w base v l) (o:Obj):Le (w.alloc o) base v l:=World.ownsRow.alloc h o
theorem Le.next {w w':World} {base:Nat} {v:Value} {l:List Ev} (h:Le w base v l) (hb:Below w.heap.size w w'):Le w' base v l:=by
 refine ⟨h.1,?_⟩;rcases h.2 with hn | ⟨g,cap,cur,hv,hg,hc,rest⟩
 ·exact .inl hn
 ·exact .inr ⟨g,cap,cur,hv,hg,Blk.next hc hb,rest⟩
theorem Le.came {w:World} {base:Nat} {v:Value} {l:List Ev} (h:Le w base v l) (hl:l.length≤100000) (hw:∀ x∈l,wf13 x):∃ a cap,v = .slice a l.length cap∧ECame w a l.length cap l:=by
 rcases h.2 with ⟨hv,hn⟩ | ⟨g,cap,cur,hv,_,hc,h1,_⟩
 ·exact ⟨none,0,by rw [hn];exact hv,⟨⟨rfl,.inl hn⟩,fun _=>rfl,by omega,by omega,hw⟩⟩
 ·subst hv;refine ⟨_,cap,rfl,⟨⟨rfl,.inr ⟨g,0,rfl,Blk.lt hc,fun i j hi hj=>?_⟩⟩,(fun h=>by cases h),h1,by omega,hw⟩⟩;have e1:=World.ownsRow.cellAt h (i*13+j) (by omega);rw [Nat.zero_add,e1];exact cellsE_at l i j hi hj
theorem wp_ev {w:World} {ops:Array Oper} {rest:List Oper} {o:Oper} {a:Act} {Q:Exit→Act→World→Prop} (hgd:o.guard=none) (s x:Operand)
  (ho:o.op = .call { callee:= .builtin .append,args:=#[s,x],argTypes:=#[58,58] })
  (base G:Nat) (v:Value) (l:List Ev) (r:Ev) (hs:a.eval s=v) (hx:a.eval x = .slice (some ⟨G,0,none⟩) 1 1) (hv:Le w base v l) (hu:Blk w G r.cl.toArray 72) (hn:l.length≤1000000) (hbase:base≤w.heap.size)
  (h:∀ v' w',Le w' base v' (l++[r])→w.grownBy w' v.ownBlock→wpList Tryz.prog ops Q rest (a.put o.dst v') w'):wpList Tryz.prog ops Q (o :: rest) a w:=by
 obtain ⟨i0,hi,hz0,hz1,hz2⟩:=info_parts evI;refine wpList_append_own w hgd s x 58 ho base 72 i0 (.agg ev0.cl.toArray) 13 104 Tryz.underlying58 hi hz0 hz1 hz2 rfl (by decide) v l.length (cellsE l) hs hv ⟨G,0,none⟩ 1 1 (cellsE [r]) hx (by rw [cellsE_len];rfl) ?_ (oneE [r]) (by unfold maxLen;omega) (by omega) hbase ?_
 ·intro j u hj;rw [Addr.add_lit,Nat.zero_add,hu.cell j];rw [cellsE,cellsE,List.append_nil] at hj;simpa using hj
 intro v' w' h1 h2 _;refine h v' w' ?_ h2;unfold Le;rw [List.length_append,cellsE_app];exact h1
open acc (Ac Tm Bi APost BPost TFault TRight OpenIs OweIs SellIs GrantIs RekeyIs wf6 ACame TCame fresh_updN fresh_drew came_lt)
def OwPost (w:World) (x:Ac) (d:tar.Du) (e:Ending) (w':World):Prop:=Below w.heap.size w w'∧((∃ b pb lb cb,e = .returned (acc.Ac.v b pb lb cb)∧OweIs x d b 0∧deb.Fresh w' w.heap.size pb lb cb b.ds)∨∃ b f,f≠0∧e = .panicked (thrown f)∧OweIs x d b f)
theorem bowing (x:Ac) (p:Option Addr) (len cap:Nat) (d:tar.Du) (w:World) (ha:ACame w x p len cap) (hd:(Lit.int .i64 d.a).wf=true∧(Lit.int .i64 d.b).wf=true):Calls Tryz.prog 72 #[.agg #[zI x.me,zI x.rv,zI x.nx,zI x.mo,zI x.bo,zI x.fr,.slice p len cap],.agg #[zI d.a,zI d.b]] w fun e w'=>OwPost w x d e w':=by
 have HNO:Hid (∀ (f:Int) (hf:f≠0) W,Calls Tryz.prog 112 #[zI f] W fun e w'=>e = .panicked (thrown f)∧w'=W):=fun f hf W=>insist_no f hf W;have HOK:Hid (∀ W,Calls Tryz.prog 112 #[zI 0] W fun e w'=>e = .returned (.tuple #[])∧w'=W):=fun W=>insist_ok W;obtain ⟨W0,HWW,H0a,H0d,H0r,H0B,hs0⟩:=sh3 w #[zI x.me,zI x.rv,zI x.nx,zI x.mo,zI x.bo,zI x.fr,.slice p len cap] 51 #[zI d.a,zI d.b] 70 #[zI 0,zI 0,zI 0,zI 0,zI 0,zI 0,zS] 51;have H0A:Hid (ACame W0 x p len cap):=ha.below H0B.o;go_enter Tryz.func72,Tryz.ntmps72;go_upto_region 1 with fail
 rw [HWW.o];clear HWW;have HSL:Hid (Calls Tryz.prog 75 #[.agg #[zI x.me,zI x.rv,zI x.nx,zI x.mo,zI x.bo,zI x.fr,.slice p len cap],.agg #[zI d.a,zI d.b]] W0 fun e w'=>APost W0 (OweIs x d) e w'):=acc.kowe _ x p len cap d H0A.o hd;clear hd ha;have HS0:Hid (w.heap.size≤W0.heap.size):=H0B.o.size
 go_wp2_with (first
  | (refine zqw rfl rfl rfl H0a zqu51 ?_)
  | (refine zqw rfl rfl rfl H0d zqu70 ?_)
  | (refine zqw rfl rfl rfl H0r zqu51 ?_)
  | fail)
 refine HSL.o.mono ?_;rintro e w1 ⟨b,pb,lb,cb,f,rfl,hi,hf,hb1⟩;have hW1:W0.heap.size≤w1.heap.size:=hb1.size;have HI:Hid (OweIs x d b f):=hi;have HF1:Hid (deb.Fresh w1 W0.heap.size pb lb cb b.ds):=hf;have H1a:=shN H0a hb1;have H1d:=shN H0d hb1;have H1r:=shN H0r hb1;have H1B:=shB H0B hb1;clear H0a H0d H0r H0B;clear hi hf hb1 HSL;unfold acc.Ac.v acc.Ac.cs
 go_wp2_with (first
  | (refine zql rfl rfl rfl rfl zqu51 (by simp [Value.oneCell']) H1a rfl ?_)
  | (refine zqw rfl rfl rfl H1a zqu51 ?_)
  | (refine zqw rfl rfl rfl H1d zqu70 ?_)
  | (refine zqw rfl rfl rfl H1r zqu51 ?_)
  | fail)
 intro V1 hU;have H2a:Hid (Blk V1 (w.heap.size) #[zI b.me,zI b.rv,zI b.nx,zI b.mo,zI b.bo,zI b.fr,.slice pb lb cb] 51):=hU.blk;have H2d:=shK hU H1d (by omega);have H2r:=shK hU H1r (by omega);have H2B:=shV hU H1B (by omega);clear H1a H1d H1r H1B;have HF2:Hid (deb.Fresh V1 W0.heap.size pb lb cb b.ds):=fresh_updN HF1.o hU (fun hn y hy=>by have f1:=HF1.o.new hn y hy;omega);clear hU HF1;by_cases h0:f=0
 case neg=>
  have HN1:=HNO.o f h0;have HN2:Hid (∀ W,Calls Tryz.prog 112 #[zI f] W fun e w'=>e = .panicked (thrown f)∧w'=W):=HN1;have HNE:Hid (f≠0):=h0;clear HN1 HNO h0
  go_wp2_with (first
   | (refine zqw rfl rfl rfl H2a zqu51 ?_)
   | (refine zqw rfl rfl rfl H2d zqu70 ?_)
   | (refine zqw rfl rfl rfl H2r zqu51 ?_)
   | fail)
  refine (HN2.o _).mono ?_;rintro e W9 ⟨rfl,rfl⟩;exact ⟨rfl,H2B.o,.inr ⟨b,f,HNE.o,rfl,HI.o⟩⟩
 subst h0
 go_wp2_with (first
  | (refine zqw rfl rfl rfl H2a zqu51 ?_)
  | (refine zqw rfl rfl rfl H2d zqu70 ?_)
  | (refine zqw rfl rfl rfl H2r zqu51 ?_)
  | fail)
 refine (HOK.o _).mono ?_;rintro e W9 ⟨rfl,hw9⟩;obtain rfl:V1=W9:=hw9.symm
 go_wp2_with (first
  | (refine zql rfl rfl rfl rfl zqu51 (by simp [Value.oneCell']) H2r rfl ?_)
  | (refine zqw rfl rfl rfl H2a zqu51 ?_)
  | (refine zqw rfl rfl rfl H2d zqu70 ?_)
  | (refine zqw rfl rfl rfl H2r zqu51 ?_)
  | fail)
 intro V2 hU;have H3a:=shK hU H2a (by omega);have H3d:=shK hU H2d (by omega);have H3r:Hid (Blk V2 (w.heap.size+1+1) #[zI b.me,zI b.rv,zI b.nx,zI b.mo,zI b.bo,zI b.fr,.slice pb lb cb] 51):=hU.blk;have H3B:=shV hU H2B (by omega);clear H2a H2d H2r H2B;have HF3:Hid (deb.Fresh V2 W0.heap.size pb lb cb b.ds):=fresh_updN HF2.o hU (fun hn y hy=>by have f1:=HF2.o.new hn y hy;omega);clear hU HF2;obtain ⟨R0,R1,R2,R3,R4,R5,R6⟩:=shc7 H3r;go_wp2_with fail;exact bodyPost_ret (v:= .agg #[zI b.me,zI b.rv,zI b.nx,zI b.mo,zI b.bo,zI b.fr,.slice pb lb cb]) (by simp [results,Tryz.results72,R0.o,R1.o,R2.o,R3.o,R4.o,R5.o,R6.o,go_sem]) rfl ⟨H3B.o,.inl ⟨b,pb,lb,cb,rfl,HI.o,HF3.o.low HS0.o⟩⟩
end book
namespace token
open words
open Go.RowKit
structure WN (a b c V:Nat):Prop where
 a1:a<2 ^ 32
 b1:b<2 ^ 32
 c1:c<2 ^ 32
 val:bigV a b c=V
theorem wn_zero:WN 0 0 0 0:=⟨by decide,by decide,by decide,rfl⟩
def loP:Nat→Nat
 | 0=>57
 | 1=>37
 | 2=>16
 | _=>0
def nP:Nat→Nat
 | 0=>3
 | 1=>20
 | 2=>21
 | _=>16
def vP (k:Tok):Nat→Nat
 | 0=>k.c
 | 1=>k.i
 | 2=>k.a
 | _=>k.t
def pP (k:Tok):Nat→Nat
 | 0=>0
 | 1=>k.c*144115188075855872
 | 2=>k.c*144115188075855872+k.i*137438953472
 | 3=>k.c*144115188075855872+k.i*137438953472+k.a*65536
 | _=>k.num
theorem step_P {k:Tok} (h:k.ok) (j:Nat) (hj:j<4):vP k j<2 ^ nP j∧1≤nP j∧nP j≤64∧loP j+nP j≤96∧pP k j / 2 ^ loP j % 2 ^ nP j=0∧pP k (j+1)=pP k j+vP k j*2 ^ loP j∧vP k j<9223372036854775808:=by
 have:=h.c3;have:=h.i2;have:=h.t2;have:=h.a2
 match j,hj with
 | 0,_=>exact ⟨by show k.c<8;omega,by decide,by decide,by decide,by show 0 / _ % _=0;simp,by show k.c*144115188075855872=0+k.c*144115188075855872;omega,by show k.c<_;omega⟩
 | 1,_=>exact ⟨by show k.i<1048576;omega,by decide,by decide,by decide,by show k.c*144115188075855872 / 137438953472 % 1048576=0;omega,by show k.c*144115188075855872+k.i*137438953472=k.c*144115188075855872+k.i*137438953472;rfl,by show k.i<_;omega⟩
 | 2,_=>exact ⟨by show k.a<2097152;omega,by decide,by decide,by decide,by show (k.c*144115188075855872+k.i*137438953472) / 65536 % 2097152=0;omega,by show k.c*144115188075855872+k.i*137438953472+k.a*65536=k.c*144115188075855872+k.i*137438953472+k.a*65536;rfl,by show k.a<_;omega⟩
 | 3,_=>exact ⟨by show k.t<65536;omega,by decide,by decide,by decide,by show (k.c*144115188075855872+k.i*137438953472+k.a*65536) / 1 % 65536=0;omega,by show k.num=k.c*144115188075855872+k.i*137438953472+k.a*65536+k.t*1;unfold Tok.num;omega,by show k.t<_;omega⟩
theorem wrap_u (v:Nat) (h:v<9223372036854775808):IntKind.u64.wrap (v:Int)=(v:Int):=by rw [IntKind.wrap_u64];omega
theorem idxP (j:Nat) (hj:j<4) (w:World) :
  (Instr.index 231 (.agg #[zI 57,zI 3,zI 37,zI 20,zI 16,zI 21,zI 0,zI 16]) (zI (j:Int))).run Tryz.prog w = .ok (.agg #[zI (loP j:Int),zI (nP j:Int)]) w:=by
 rcases (by omega:j=0∨j=1∨j=2∨j=3) with rfl | rfl | rfl | rfl
 ·kernel_rfl
 ·kernel_rfl
 ·kernel_rfl
 ·kernel_rfl
theorem put_wn (a b c v lo n V : Nat) (w : World) (h : WN a b c V) (hv : v < 2 ^ n) (n0 : 1 ≤ n) (n1 : n ≤ 64) (hl : lo + n ≤ 96) (h0 : V / 2 ^ lo % 2 ^ n = 0) :
  Calls Tryz.prog 132 #[.agg #[.int .u32 (a : Int), .int .u32 (b : Int), .int .u32 (c : Int)], .int .i64 (lo : Int), .int .i64 (n : Int), .int .u64 (v : Int)] w fun e w' =>
   ∃ a' b' c' : Nat, e = .returned (.tuple #[.agg #[.int .u32 (a' : Int), .int .u32 (b' : Int), .int .u32 (c' : Int)], .int .i64 0]) ∧ WN a' b' c' (V + v * 2 ^ lo) ∧ Below w.heap.size w w' := by
 refine (put_any a b c v lo n w h.a1 h.b1 h.c1 hv n0 n1 hl).mono ?_
 rintro e w' ⟨he, hb⟩
 refine ⟨_, _, _, he, ⟨put_lt _ _ _ _ h.a1, put_lt _ _ _ _ h.b1, put_lt _ _ _ _ h.c1, ?_⟩, hb⟩
 rw [put_num h.a1 h.b1 h.c1 hv n1 hl (by rw [h.val]; exact h0), h.val]
structure Pk (w wr : World) (k : Tok) (j a b c : Nat) : Prop where
 below : Below w.heap.size w wr
 fld : Blk wr (w.heap.size + 1 + 1) #[.int .i64 (k.c : Int), .int .i64 (k.i : Int), .int .i64 (k.a : Int), .int .i64 (k.t : Int)] 228
 res : Blk wr (w.heap.size + 1) #[.int .u32 0, .int .u32 0, .int .u32 0] 131
 num : Blk wr (w.heap.size + 1 + 1 + 1) #[.int .u32 (a : Int), .int .u32 (b : Int), .int .u32 (c : Int)] 131
 wn : WN a b c (pP k j)
theorem Pk.mk3 {w w2 : World} {k : Tok} {j a b c a' b' c' : Nat} (hB : Below w.heap.size w w2) (hF : Blk w2 (w.heap.size + 1 + 1) #[.int .i64 (k.c : Int), .int .i64 (k.i : Int), .int .i64 (k.a : Int), .int .i64 (k.t : Int)] 228) (hR : Blk w2 (w.heap.size + 1) #[.int .u32 0, .int .u32 0, .int .u32 0] 131)
  (hN : Blk w2 (w.heap.size + 1 + 1 + 1) #[.int .u32 (a : Int), .int .u32 (b : Int), .int .u32 (c : Int)] 131) (hwn : WN a' b' c' (pP k j)) :
  Pk w (((w2.setCell ⟨w.heap.size + 1 + 1 + 1, 0, none⟩ (.int .u32 (a' : Int))).setCell ⟨w.heap.size + 1 + 1 + 1, 1, none⟩ (.int .u32 (b' : Int))).setCell ⟨w.heap.size + 1 + 1 + 1, 2, none⟩ (.int .u32 (c' : Int))) k j a' b' c' :=
 ⟨bel_set (bel_set (bel_set hB _ _ _ (by omega)) _ _ _ (by omega)) _ _ _ (by omega), ((hF.other _ _ (by omega)).other _ _ (by omega)).other _ _ (by omega), ((hR.other _ _ (by omega)).other _ _ (by omega)).other _ _ (by omega), ((hN.set 0 _).set 1 _).set 2 _, hwn⟩
def PackPost (w : World) (k : Tok) (e : Ending) (w' : World) : Prop := ∃ a b c : Nat, e = .returned (.agg #[.int .u32 (a : Int), .int .u32 (b : Int), .int .u32 (c : Int)]) ∧ WN a b c k.num ∧ Below w.heap.size w w'
set_option maxHeartbeats 1000000 in
theorem pack_any (k : Tok) (w : World) (hk : k.ok) (ht : TTab w) :
  Calls Tryz.prog 87 #[k.v] w fun e w' => PackPost w k e w' := by
 have hb0 : Below w.heap.size w ((((w.alloc (.cells #[.int .i64 (k.c : Int), .int .i64 (k.i : Int), .int .i64 (k.a : Int), .int .i64 (k.t : Int)] 96)).alloc (.cells #[.int .u32 0, .int .u32 0, .int .u32 0] 131)).alloc (.cells #[.int .i64 (k.c : Int), .int .i64 (k.i : Int), .int .i64 (k.a : Int), .int .i64 (k.t : Int)] 228)).alloc (.cells #[.int .u32 0, .int .u32 0, .int .u32 0] 131)) :=
  ((((Below.refl _ _).alloc (Nat.le_refl _) _).alloc (by simp) _).alloc (by simp; omega) _).alloc (by simp; omega) _
 obtain ⟨q0, q1, q2, q3, q4, q5, q6, q7⟩ := (ht.places.below hb0).cell
 have HP : Hid (Pk w ((((w.alloc (.cells #[.int .i64 (k.c : Int), .int .i64 (k.i : Int), .int .i64 (k.a : Int), .int .i64 (k.t : Int)] 96)).alloc (.cells #[.int .u32 0, .int .u32 0, .int .u32 0] 131)).alloc (.cells #[.int .i64 (k.c : Int), .int .i64 (k.i : Int), .int .i64 (k.a : Int), .int .i64 (k.t : Int)] 228)).alloc (.cells #[.int .u32 0, .int .u32 0, .int .u32 0] 131)) k 0 0 0 0) :=
  ⟨hb0, (Blk.new2 _ _ _ _ _).alloc _, ((Blk.new1 _ _ _ _).alloc _).alloc _, Blk.new3 _ _ _ _ _ _, wn_zero⟩
 have HK : Hid k.ok := hk
 clear hk ht hb0
 unfold Tok.v
 go_enter Tryz.func87, Tryz.ntmps87
 go_wp2_with fail
 generalize ((((w.alloc (.cells #[.int .i64 (k.c : Int), .int .i64 (k.i : Int), .int .i64 (k.a : Int), .int .i64 (k.t : Int)] 96)).alloc (.cells #[.int .u32 0, .int .u32 0, .int .u32 0] 131)).alloc (.cells #[.int .i64 (k.c : Int), .int .i64 (k.i : Int), .int .i64 (k.a : Int), .int .i64 (k.t : Int)] 228)).alloc (.cells #[.int .u32 0, .int .u32 0, .int .u32 0] 131)) = W0 at *
 clear q0 q1 q2 q3 q4 q5 q6 q7
 go_loopw [17] (fun v wr => ∃ j a b c : Nat, j ≤ 4 ∧ v = .int .i64 (j : Int) ∧ Pk w wr k j a b c) (fun v _ => 4 - (intOf v).toNat)
 case atStart => exact ⟨0, 0, 0, 0, by omega, rfl, HP.out⟩
 case round =>
  obtain ⟨j, a, b, c, hj, rfl, hp⟩ := hrel
  by_cases hlt : j < 4
  ·have hst := step_P HK.out j hlt
   have HC : Hid (∀ W, Calls Tryz.prog 132 #[.agg #[.int .u32 (a : Int), .int .u32 (b : Int), .int .u32 (c : Int)], .int .i64 (loP j : Int), .int .i64 (nP j : Int), .int .u64 (IntKind.u64.wrap (vP k j : Int))] W fun e w' =>
     ∃ a' b' c' : Nat, e = .returned (.tuple #[.agg #[.int .u32 (a' : Int), .int .u32 (b' : Int), .int .u32 (c' : Int)], .int .i64 0]) ∧ WN a' b' c' (pP k (j + 1)) ∧ Below W.heap.size W w') := fun W => by
    rw [hst.2.2.2.2.2.1, wrap_u _ hst.2.2.2.2.2.2]
    exact put_wn a b c (vP k j) (loP j) (nP j) (pP k j) W hp.wn hst.1 hst.2.1 hst.2.2.1 hst.2.2.2.1 hst.2.2.2.2.1
   have hix := idxP j hlt
   have hv := hst.2.2.2.2.2.2
   have hf : ∀ W : World, Blk W (w.heap.size + 1 + 1) #[.int .i64 (k.c : Int), .int .i64 (k.i : Int), .int .i64 (k.a : Int), .int .i64 (k.t : Int)] 228 → W.cell? ⟨w.heap.size + 1 + 1, j, none⟩ = some (.int .i64 (vP k j : Int)) := fun W hB => by
    rw [hB.cell]
    rcases (by omega : j = 0 ∨ j = 1 ∨ j = 2 ∨ j = 3) with rfl | rfl | rfl | rfl <;> rfl
   generalize vP k j = v at *
   generalize loP j = lo at *
   generalize nP j = n at *
   clear hst
   have hjj : (j : Int) < 4 := by omega
   have hPl := Blk.new wr #[.int .i64 (lo : Int), .int .i64 (n : Int)] 230
   have hNu := hp.num.alloc (.cells #[.int .i64 (lo : Int), .int .i64 (n : Int)] 230)
   have hFi := hp.fld.alloc (.cells #[.int .i64 (lo : Int), .int .i64 (n : Int)] 230)
   have hRe := hp.res.alloc (.cells #[.int .i64 (lo : Int), .int .i64 (n : Int)] 230)
   have hBe := hp.below.alloc hp.below.size (.cells #[.int .i64 (lo : Int), .int .i64 (n : Int)] 230)
   have hne : wr.heap.size ≠ w.heap.size + 1 + 1 + 1 := by have := hp.num.lt; omega
   clear hp
   go_wp2_with fail
   generalize wr.alloc (.cells #[.int .i64 (lo : Int), .int .i64 (n : Int)] 230) = W1 at *
   have k0 : W1.drew.cell? ⟨w.heap.size + 1 + 1 + 1, 0, none⟩ = some (.int .u32 (a : Int)) := hNu.cell 0
   have k1 : W1.drew.cell? ⟨w.heap.size + 1 + 1 + 1, 1, none⟩ = some (.int .u32 (b : Int)) := hNu.cell 1
   have k2 : W1.drew.cell? ⟨w.heap.size + 1 + 1 + 1, 2, none⟩ = some (.int .u32 (c : Int)) := hNu.cell 2
   have KW : Hid (W1.drew.cell? ⟨wr.heap.size, 0, none⟩ = some (.int .i64 (lo : Int)) ∧ W1.drew.cell? ⟨wr.heap.size, 1, none⟩ = some (.int .i64 (n : Int)) ∧ W1.drew.cell? ⟨w.heap.size + 1 + 1, j, none⟩ = some (.int .i64 (v : Int))) := ⟨hPl.cell 0, hPl.cell 1, hf _ hFi⟩
   refine wp_region_held_drew (S := (fun v' => v'.cell? ⟨wr.heap.size, 0, none⟩ = some (.int .i64 (lo : Int)) ∧ v'.cell? ⟨wr.heap.size, 1, none⟩ = some (.int .i64 (n : Int)) ∧ v'.cell? ⟨w.heap.size + 1 + 1, j, none⟩ = some (.int .i64 (v : Int)))) (by kernel_rfl) KW.out (fun hHeld => ?_)
   refine wpAnyH_take (i := 1) (v := ?v1) rfl (by kernel_rfl) (by kernel_rfl) (by kernel_rfl) (fun _ _ _ h => h) (Or.inl ⟨by rfl, ?y1⟩) KW.out ?r1
   case y1 => (intro wz hSw; (try dsimp only at hSw); go_simp; try (with_reducible rfl))
   simp only [Act.put, zqa, zqb, zqc]
   refine wpAnyH_take (i := 2) (v := ?v2) rfl (by kernel_rfl) (by kernel_rfl) (by kernel_rfl) (fun _ _ _ h => h) (Or.inl ⟨by rfl, ?y2⟩) KW.out ?r2
   case y2 => (intro wz hSw; (try dsimp only at hSw); go_simp; try (with_reducible rfl))
   simp only [Act.put, zqa, zqb, zqc]
   refine wpAnyH_take (i := 3) (v := ?v3) rfl (by kernel_rfl) (by kernel_rfl) (by kernel_rfl) (fun _ _ _ h => h) (Or.inl ⟨by rfl, ?y3⟩) KW.out ?r3
   case y3 => (intro wz hSw; (try dsimp only at hSw); go_simp; try (with_reducible rfl))
   simp only [Act.put, zqa, zqb, zqc]
   refine wpAnyH_take (i := 4) (v := ?v4) rfl (by kernel_rfl) (by kernel_rfl) (by kernel_rfl) (fun _ _ _ h => h) (Or.inl ⟨by rfl, ?y4⟩) KW.out ?r4
   case y4 => (intro wz hSw; (try dsimp only at hSw); go_simp; try (with_reducible rfl))
   simp only [Act.put, zqa, zqb, zqc]
   refine wpAnyH_take (i := 5) (v := ?v5) rfl (by kernel_rfl) (by kernel_rfl) (by kernel_rfl) (fun _ _ _ h => h) (Or.inl ⟨by rfl, ?y5⟩) KW.out ?r5
   case y5 => (intro wz hSw; (try dsimp only at hSw); go_simp; try (with_reducible rfl))
   simp only [Act.put, zqa, zqb, zqc]
   refine wpAnyH_take (i := 6) (v := ?v6) rfl (by kernel_rfl) (by kernel_rfl) (by kernel_rfl) (fun _ _ _ h => h) (Or.inl ⟨by rfl, ?y6⟩) KW.out ?r6
   case y6 => (intro wz hSw; (try dsimp only at hSw); go_simp; try (with_reducible rfl))
   simp only [Act.put, zqa, zqb, zqc]
   refine wpAnyH_take (i := 7) (v := ?v7) rfl (by kernel_rfl) (by kernel_rfl) (by kernel_rfl) (fun _ _ _ h => h) (Or.inl ⟨by rfl, ?y7⟩) KW.out ?r7
   case y7 => (intro wz hSw; (try dsimp only at hSw); go_simp; try (with_reducible rfl))
   simp only [Act.put, zqa, zqb, zqc]
   refine wpAnyH_take (i := 8) (v := ?v8) rfl (by kernel_rfl) (by kernel_rfl) (by kernel_rfl) (fun _ _ _ h => h) (Or.inl ⟨by rfl, ?y8⟩) KW.out ?r8
   case y8 => (intro wz hSw; (try dsimp only at hSw); go_simp; try (with_reducible rfl))
   simp only [Act.put, zqa, zqb, zqc]
   refine wpAnyH_ready (rs := [0]) (by kernel_rfl) (by simp) ?_
   refine AllReadyH.cons rfl (fun K hK => ?_) AllReadyH.nil
   go_simp
   refine hK.out _ _ KW.out (fun _ => ?_)
   refine wpAnyH_ready (rs := [9]) (by kernel_rfl) (by simp) ?_
   refine AllReadyH.cons rfl (fun K hK => ?_) AllReadyH.nil
   go_simp
   refine (HC.out _).mono ?_
   rintro e w2 ⟨a', b', c', rfl, hwn, hb2⟩
   have hN2 : Blk w2 (w.heap.size + 1 + 1 + 1) #[.int .u32 (a : Int), .int .u32 (b : Int), .int .u32 (c : Int)] 131 := Blk.next (w := W1.drew) hNu hb2
   have hP2 : Blk w2 wr.heap.size #[.int .i64 (lo : Int), .int .i64 (n : Int)] 230 := Blk.next (w := W1.drew) hPl hb2
   have hF2 : Blk w2 (w.heap.size + 1 + 1) #[.int .i64 (k.c : Int), .int .i64 (k.i : Int), .int .i64 (k.a : Int), .int .i64 (k.t : Int)] 228 := Blk.next (w := W1.drew) hFi hb2
   have hR2 : Blk w2 (w.heap.size + 1) #[.int .u32 0, .int .u32 0, .int .u32 0] 131 := Blk.next (w := W1.drew) hRe hb2
   have hB2 : Below w.heap.size w w2 := bel_step (w := W1.drew) hBe.drew hb2
   have r0 := hN2.cell 0
   have r1 := hN2.cell 1
   have r2 := hN2.cell 2
   have f0 := hN2.free 0
   have f1 := hN2.free 1
   have f2 := hN2.free 2
   have K2 : Hid (w2.cell? ⟨wr.heap.size, 0, none⟩ = some (.int .i64 (lo : Int)) ∧ w2.cell? ⟨wr.heap.size, 1, none⟩ = some (.int .i64 (n : Int)) ∧ w2.cell? ⟨w.heap.size + 1 + 1, j, none⟩ = some (.int .i64 (v : Int))) := ⟨hP2.cell 0, hP2.cell 1, hf _ hF2⟩
   have HQ : Hid (Pk w (((w2.setCell ⟨w.heap.size + 1 + 1 + 1, 0, none⟩ (.int .u32 (a' : Int))).setCell ⟨w.heap.size + 1 + 1 + 1, 1, none⟩ (.int .u32 (b' : Int))).setCell ⟨w.heap.size + 1 + 1 + 1, 2, none⟩ (.int .u32 (c' : Int))) k (j + 1) a' b' c') := Pk.mk3 hB2 hF2 hR2 hN2 hwn
   have K3 : Hid ((((w2.setCell ⟨w.heap.size + 1 + 1 + 1, 0, none⟩ (.int .u32 (a' : Int))).setCell ⟨w.heap.size + 1 + 1 + 1, 1, none⟩ (.int .u32 (b' : Int))).setCell ⟨w.heap.size + 1 + 1 + 1, 2, none⟩ (.int .u32 (c' : Int))).cell? ⟨wr.heap.size, 0, none⟩ = some (.int .i64 (lo : Int)) ∧ (((w2.setCell ⟨w.heap.size + 1 + 1 + 1, 0, none⟩ (.int .u32 (a' : Int))).setCell ⟨w.heap.size + 1 + 1 + 1, 1, none⟩ (.int .u32 (b' : Int))).setCell ⟨w.heap.size + 1 + 1 + 1, 2, none⟩ (.int .u32 (c' : Int))).cell? ⟨wr.heap.size, 1, none⟩ = some (.int .i64 (n : Int)) ∧ (((w2.setCell ⟨w.heap.size + 1 + 1 + 1, 0, none⟩ (.int .u32 (a' : Int))).setCell ⟨w.heap.size + 1 + 1 + 1, 1, none⟩ (.int .u32 (b' : Int))).setCell ⟨w.heap.size + 1 + 1 + 1, 2, none⟩ (.int .u32 (c' : Int))).cell? ⟨w.heap.size + 1 + 1, j, none⟩ = some (.int .i64 (v : Int))) :=
    ⟨(((hP2.other _ _ (Ne.symm hne)).other _ _ (Ne.symm hne)).other _ _ (Ne.symm hne)).cell 0, (((hP2.other _ _ (Ne.symm hne)).other _ _ (Ne.symm hne)).other _ _ (Ne.symm hne)).cell 1, hf _ HQ.out.fld⟩
   clear hN2 hP2 hF2 hR2 hB2 hb2 hwn
   go_simp
   refine hK.out _ _ K2.out (fun _ => ?_)
   refine wpAnyH_take (i := 10) (v := ?v10) rfl (by kernel_rfl) (by kernel_rfl) (by kernel_rfl) (fun _ _ _ h => h) (Or.inl ⟨by rfl, ?y10⟩) K2.out ?r10
   case y10 => (intro wz hSw; (try dsimp only at hSw); go_simp; try (with_reducible rfl))
   simp only [Act.put, zqa, zqb, zqc]
   refine wpAnyH_take (i := 11) (v := ?v11) rfl (by kernel_rfl) (by kernel_rfl) (by kernel_rfl) (fun _ _ _ h => h) (Or.inl ⟨by rfl, ?y11⟩) K2.out ?r11
   case y11 => (intro wz hSw; (try dsimp only at hSw); go_simp; try (with_reducible rfl))
   simp only [Act.put, zqa, zqb, zqc]
   refine wpAnyH_take (i := 12) (v := ?v12) rfl (by kernel_rfl) (by kernel_rfl) (by kernel_rfl) (fun _ _ _ h => h) (Or.inl ⟨by rfl, ?y12⟩) K2.out ?r12
   case y12 => (intro wz hSw; (try dsimp only at hSw); go_simp; try (with_reducible rfl))
   simp only [Act.put, zqa, zqb, zqc]
   refine wpAnyH_ready (rs := [13]) (by kernel_rfl) (by simp) ?_
   refine AllReadyH.cons rfl (fun K hK => ?_) AllReadyH.nil
   go_simp
   refine hK.out _ _ K3.out (fun _ => ?_)
   refine wpAnyH_done (by kernel_rfl) ?_ _
   all_goals
    go_wp2_with fail
    go_roundw
    case rel => exact ⟨j + 1, a', b', c', by omega, by go_num, HQ.out⟩
    case measure => simp [intOf]; omega
  ·obtain rfl : j = 4 := by omega
   have r0 := hp.num.cell 0
   have r1 := hp.num.cell 1
   have r2 := hp.num.cell 2
   have s0 := hp.res.cell 0
   have s1 := hp.res.cell 1
   have s2 := hp.res.cell 2
   have f0 := hp.res.free 0
   have f1 := hp.res.free 1
   have f2 := hp.res.free 2
   have HB : Hid (Below w.heap.size w (((wr.setCell ⟨w.heap.size + 1, 0, none⟩ (.int .u32 (a : Int))).setCell ⟨w.heap.size + 1, 1, none⟩ (.int .u32 (b : Int))).setCell ⟨w.heap.size + 1, 2, none⟩ (.int .u32 (c : Int)))) := bel_set (bel_set (bel_set hp.below _ _ _ (by omega)) _ _ _ (by omega)) _ _ _ (by omega)
   have HW : Hid (WN a b c k.num) := hp.wn
   have RR : Blk (((wr.setCell ⟨w.heap.size + 1, 0, none⟩ (.int .u32 (a : Int))).setCell ⟨w.heap.size + 1, 1, none⟩ (.int .u32 (b : Int))).setCell ⟨w.heap.size + 1, 2, none⟩ (.int .u32 (c : Int))) (w.heap.size + 1) #[.int .u32 (a : Int), .int .u32 (b : Int), .int .u32 (c : Int)] 131 := ((hp.res.set 0 _).set 1 _).set 2 _
   have R0 : Hid (_ = _) := RR.cell 0
   have R1 : Hid (_ = _) := RR.cell 1
   have R2 : Hid (_ = _) := RR.cell 2
   clear hp RR
   go_wp2_with fail
   refine bodyPost_ret (v := .agg #[.int .u32 (a : Int), .int .u32 (b : Int), .int .u32 (c : Int)]) (by simp [results, Tryz.results87, R0.out, R1.out, R2.out, go_sem]) rfl ⟨a, b, c, rfl, HW.out, HB.out⟩
end token
end Go.Proofs.YtnpblpbohcegoaaGreatDoor
