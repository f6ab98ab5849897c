import Derived.Test.YtnpblpbohcegoaaGreatDoorVVRry23
import Derived.Test.YtnpblpbohcegoaaGreatDoorVVRry26
set_option linter.unusedVariables false
set_option linter.unusedSimpArgs false
set_option maxHeartbeats 4000000
set_option maxRecDepth 100000
namespace Go.Proofs.YtnpblpbohcegoaaGreatDoor
namespace book
open Go.RowKit
def findV (B:Nat):Value:= .func (.func 84) #[] #[.pointer (some ⟨B,0,none⟩)]
theorem asked_any (B:Nat) (me xm xr xn xo xb xf:Int) (dp:Option Addr) (dn dc:Nat) (sp:Option Addr) (sn sc:Nat) (W:World) (hc:W.cell? ⟨B,0,none⟩=some (zI me)) (hB:B<W.heap.size) :
  Calls Tryz.prog 84 #[.agg #[zI xm,zI xr,zI xn,zI xo,zI xb,zI xf,.slice dp dn dc,.slice sp sn sc],.pointer (some ⟨B,0,none⟩)] W fun e w'=>e = .returned (.bool (xm == me))∧Below W.heap.size W w':=by
 have hc2:(W.alloc (.cells #[zI xm,zI xr,zI xn,zI xo,zI xb,zI xf,.slice dp dn dc,.slice sp sn sc] 54)).cell? ⟨B,0,none⟩=some (zI me):=by rw [World.cell?_alloc_lt W _ _ hB];exact hc
 have HB:Hid (Below W.heap.size W (W.alloc (.cells #[zI xm,zI xr,zI xn,zI xo,zI xb,zI xf,.slice dp dn dc,.slice sp sn sc] 54))):=(Below.refl _ _).alloc (Nat.le_refl _) _;clear hc hB;go_enter Tryz.func84,Tryz.ntmps84;go_wp2_with fail;go_ret;exact ⟨rfl,HB.o⟩
theorem index_cust (B n cap:Nat) (me:Int) (a:Option Addr) (l:List Cu) (w:World) (hc:w.cell? ⟨B,0,none⟩=some (zI me)) (hr:RowC w a n l) (hn:n≤2000000) :
  Calls Tryz.prog 83 #[.slice a n cap,findV B] w fun e w'=>∃ x,e = .returned (zI x)∧FoundIs l me x∧Below w.heap.size w w':=by
 have hB:=World.block_lt_of_cell? w _ hc
 have HC:Hid (∀ wr,Below w.heap.size w wr→∀ (xm xr xn xo xb xf:Int) (dp:Option Addr) (dn dc:Nat) (sp:Option Addr) (sn sc:Nat),Calls Tryz.prog 84 #[.agg #[zI xm,zI xr,zI xn,zI xo,zI xb,zI xf,.slice dp dn dc,.slice sp sn sc],.pointer (some ⟨B,0,none⟩)] wr fun e w'=>e = .returned (.bool (xm == me))∧Below wr.heap.size wr w'):=fun wr hb xm xr xn xo xb xf dp dn dc sp sn sc=>
  asked_any B me xm xr xn xo xb xf dp dn dc sp sn sc wr ((hb.cell (p:=⟨B,0,none⟩) hB).trans hc) (Nat.lt_of_lt_of_le hB hb.size)
 have HR:Hid (RowC w a n l):=hr;have HL:Hid (l.length=n):=hr.1;clear hc hB hr;unfold findV;go_enter Tryz.func83,Tryz.ntmps83;go_wp2_with fail;go_loopw [8] (fun i wr=>∃ k:Nat,k≤n∧i=zI (k:Int)∧(∀ j,j<k→(l.getD j cu0).me≠me)∧Below w.heap.size w wr) (fun i _=>n - (intOf i).toNat)
 case atStart=>exact ⟨0,Nat.zero_le _,rfl,(fun j hj=>absurd hj (Nat.not_lt_zero _)),Below.refl _ _⟩
 case round=>
  obtain ⟨k,hk,rfl,hal,hb⟩:=hrel;have HA:Hid (∀ j,j<k→(l.getD j cu0).me≠me):=hal;have HB:Hid (Below w.heap.size w wr):=hb;clear hal hb;by_cases hlt:k<n
  ·obtain ⟨b2,o2,rfl,l2,hc2⟩:=HR.o.2.resolve_left (by omega);have hce:∀ j,j<8→wr.cell? ⟨b2,o2+k*8+j,none⟩=(l.getD k cu0).cs[j]?:=fun j hj=>(HB.o.cell (p:=⟨b2,o2+k*8+j,none⟩) l2).trans (hc2 k j hlt hj)
   have HME:Hid (∀ z,z=(l.getD k cu0).me→(z=me→FoundIs l me (k:Int))∧(z≠me→∀ j,j<k+1→(l.getD j cu0).me≠me)):=fun z hz=>⟨fun e=> .inl ⟨k,by rw [HL.o];exact hlt,by rw [← hz];exact e,HA.o,rfl⟩,fun e j hj=>by
    by_cases q:j=k
    ·subst q;rw [← hz];exact e
    ·exact HA.o j (by omega)⟩
   clear hc2 l2;obtain ⟨⟨xm,xr,xn,xo,xb,xf,dp,dn,dc,sp,sn,sc⟩,hx⟩:∃ x,x=l.getD k cu0:=⟨_,rfl⟩
   have HMX:=HME.o xm (by rw [← hx]);have HY:Hid (xm=me→FoundIs l me (k:Int)):=HMX.1;have HNO:Hid (xm≠me→∀ j,j<k+1→(l.getD j cu0).me≠me):=HMX.2;rw [← hx] at hce;clear hx HME HMX;have c0:wr.cell? ⟨b2,o2+k*8,none⟩=some (zI xm):=hce 0 (by decide);have c1:wr.cell? ⟨b2,o2+k*8+1,none⟩=some (zI xr):=hce 1 (by decide);have c2:wr.cell? ⟨b2,o2+k*8+2,none⟩=some (zI xn):=hce 2 (by decide);have c3:wr.cell? ⟨b2,o2+k*8+3,none⟩=some (zI xo):=hce 3 (by decide);have c4:wr.cell? ⟨b2,o2+k*8+4,none⟩=some (zI xb):=hce 4 (by decide);have c5:wr.cell? ⟨b2,o2+k*8+5,none⟩=some (zI xf):=hce 5 (by decide);have c6:wr.cell? ⟨b2,o2+k*8+6,none⟩=some (.slice dp dn dc):=hce 6 (by decide);have c7:wr.cell? ⟨b2,o2+k*8+7,none⟩=some (.slice sp sn sc):=hce 7 (by decide);clear hce;have hcall:=HC.o wr HB.o xm xr xn xo xb xf dp dn dc sp sn sc;clear HC;by_cases he:xm=me
   ·have HF:Hid (FoundIs l me (k:Int)):=HY.o he;rw [show (xm == me)=true by simpa using he] at hcall;have HCL:Hid (Calls Tryz.prog 84 #[.agg #[zI xm,zI xr,zI xn,zI xo,zI xb,zI xf,.slice dp dn dc,.slice sp sn sc],.pointer (some ⟨B,0,none⟩)] wr fun e w'=>e = .returned (.bool true)∧Below wr.heap.size wr w'):=hcall;clear hcall he;go_wp2_with fail;refine HCL.o.mono ?_;rintro e w' ⟨rfl,hb'⟩;have HB':Hid (Below w.heap.size w w'):=bel_step HB.o hb';clear hb' c0 c1 c2 c3 c4 c5 c6 c7;go_wp2_with fail;go_ret;exact ⟨(k:Int),rfl,HF.o,HB'.o⟩
   ·have HF:Hid (∀ j,j<k+1→(l.getD j cu0).me≠me):=HNO.o he;rw [show (xm == me)=false by simpa using he] at hcall;have HCL:Hid (Calls Tryz.prog 84 #[.agg #[zI xm,zI xr,zI xn,zI xo,zI xb,zI xf,.slice dp dn dc,.slice sp sn sc],.pointer (some ⟨B,0,none⟩)] wr fun e w'=>e = .returned (.bool false)∧Below wr.heap.size wr w'):=hcall;clear hcall he;go_wp2_with fail;refine HCL.o.mono ?_;rintro e w' ⟨rfl,hb'⟩;have HB':Hid (Below w.heap.size w w'):=bel_step HB.o hb';clear hb' c0 c1 c2 c3 c4 c5 c6 c7;go_wp2_with fail;go_roundw
    case rel=>exact ⟨k+1,by omega,by go_num,HF.o,HB'.o⟩
    case measure=>simp [intOf];omega
  ·obtain rfl:k=n:=by omega
   have HFA:Hid (FoundIs l me (-1)):= .inr ⟨fun j hj=>HA.o j (by rw [← HL.o];exact hj),rfl⟩;go_wp2_with fail;go_ret;exact ⟨-1,rfl,HFA.o,HB.o⟩
theorem pfind (w:World) (p:Option Addr) (n cap:Nat) (l:List Cu) (me:Int) (hr:RowC w p n l) (hn:n≤2000000):Calls Tryz.prog 51 #[.agg #[.slice p n cap],zI me] w fun e w'=>FindPost w l me e w':=by
 have hmf:∀ (fn:Fn) (first cap:Array Value) (w:World),(Instr.makeFunc fn first cap).run Tryz.prog w = .ok (.func fn first cap) w:=fun _ _ _ _=>rfl;obtain ⟨W1,HWW,HK1,HM1,HB1,-⟩:=sh2 w #[.slice p n cap] 46 #[zI me] 3;have HR:Hid (RowC w p n l):=hr;have HN:Hid (n≤2000000):=hn;clear hr hn;go_enter Tryz.func51,Tryz.ntmps51;go_upto_region 1 with fail
 rw [HWW.o];clear HWW;have c0:W1.cell? ⟨w.heap.size,0,none⟩=some (.slice p n cap):=HK1.o.cell 0;have hI:=index_cust (w.heap.size+1) n cap me p l W1 (HM1.o.cell 0) (HR.o.below HB1.o) HN.o;unfold findV at hI;have HI:Hid (Calls Tryz.prog 83 #[.slice p n cap,.func (.func 84) #[] #[.pointer (some ⟨w.heap.size+1,0,none⟩)]] W1 fun e w'=>∃ x,e = .returned (zI x)∧FoundIs l me x∧Below W1.heap.size W1 w'):=hI;clear hI HK1 HM1 HR HN;go_wp2_with fail;refine HI.o.mono ?_;rintro e w' ⟨x,rfl,hx,hb⟩;have HB':Hid (Below w.heap.size w w'):=bel_step HB1.o hb;clear hb HI HB1 c0;by_cases hneg:x<0
 ·have HF:Hid (FindIs l me 0 18):=by
   rcases hx with ⟨k,_,_,_,e⟩ | ⟨h,_⟩
   ·omega
   ·exact .inr ⟨h,rfl,rfl⟩
  clear hx;go_wp2_with fail;go_ret2;exact ⟨0,18,rfl,HF.o,HB'.o⟩
 ·have HF:Hid (FindIs l me x 0):=by
   rcases hx with ⟨k,h1,h2,h3,e⟩ | ⟨h,e⟩
   ·exact .inl ⟨k,h1,h2,h3,e,rfl⟩
   ·omega
  clear hx;go_wp2_with fail;go_ret2;exact ⟨x,0,rfl,HF.o,HB'.o⟩
end book
namespace words
open Go.RowKit
theorem overStep_any (B M:Nat) (n x d:Int) (w:World) (hc:w.cell? ⟨B,0,none⟩=some (.int .u64 n)) (hf:w.frozen? ⟨B,0,none⟩=false) (hm:w.cell? ⟨M,0,none⟩=some (.int .u32 d)) (hBM:M≠B) (n0:0≤n) (n1:n<d) (x0:0≤x) (x1:x<4294967296) (d0:0<d) (d1:d<4294967296) :
  Calls Tryz.prog 134 #[.int .u32 x,.pointer (some ⟨B,0,none⟩),.pointer (some ⟨M,0,none⟩)] w fun e w'=>e = .returned (.int .u32 ((n*4294967296+x) / d))∧Acc w w' B (.int .u64 ((n*4294967296+x) % d)):=by
 have hA:Acc w w B (.int .u64 n):=Acc.refl hc hf;have HA:Hid (Acc w w B (.int .u64 n)):=hA;have hor:=or_words n x n0 (by omega) x0 x1;have q:=word_div d0 n0 n1 x0 x1;obtain ⟨q0,q1⟩:=q;have r0:0≤(n*4294967296+x) % d:=Int.emod_nonneg _ (by omega);have r1:(n*4294967296+x) % d<d:=Int.emod_lt_of_pos _ d0;clear hA;go_enter Tryz.func134,Tryz.ntmps134;go_wp2_with fail;go_ret;exact ⟨rfl,HA.o.set _⟩
theorem run_overStep (args:Array Value) (w:World):(callFunc 134 args).run Tryz.prog w = .ok (.enter 134 args) w:=by kernel_rfl
theorem over_any (x:W3) (d:Int) (w:World) (hx:x.ok) (d0:0<d) (d1:d<4294967296) :
  Calls Tryz.prog 88 #[wv x,.int .u32 d] w fun e w'=>e = .returned (.tuple #[wv (overW x d),.int .u32 (overR x d),zI 0])∧Below w.heap.size w w':=by
 obtain ⟨x0,x1,x2⟩:=x;obtain ⟨⟨h0,h0'⟩,⟨h1,h1'⟩,h2,h2'⟩:=hx;simp only at h0 h0' h1 h1' h2 h2';have hd0:(d == 0)=false:=by simp;omega
 go_enter Tryz.func88,Tryz.ntmps88;go_wp2_with fail;have hc:=trio_d w #[.int .u32 x0,.int .u32 x1,.int .u32 x2] (.int .u32 d) 99 (.int .u32 0) (.int .u32 0) (.int .u32 0) (.int .u64 0) 223;have hb3:=bel4 w (.cells #[.int .u32 x0,.int .u32 x1,.int .u32 x2] 131) (.cells #[.int .u32 d] 99) (.cells #[.int .u32 0,.int .u32 0,.int .u32 0] 131) (.cells #[.int .u64 0] 223);have e0:(0:Int)*4294967296+x2=x2:=by omega
 have r2:0≤x2 % d:=Int.emod_nonneg _ (by omega);have r2':x2 % d<d:=Int.emod_lt_of_pos _ d0;have r1:0≤((x2 % d)*4294967296+x1) % d:=Int.emod_nonneg _ (by omega);have r1':((x2 % d)*4294967296+x1) % d<d:=Int.emod_lt_of_pos _ d0
 refine (downward_any 134 #[.pointer (some ⟨w.heap.size+1+1+1,0,none⟩),.pointer (some ⟨w.heap.size+1,0,none⟩)] (w.heap.size+1+1+1) (.int .u64 0) (.int .u64 (x2 % d)) (.int .u64 (((x2 % d)*4294967296+x1) % d)) (.int .u64 (((((x2 % d)*4294967296+x1) % d)*4294967296+x0) % d)) x0 x1 x2
  (((((x2 % d)*4294967296+x1) % d)*4294967296+x0) / d) (((x2 % d)*4294967296+x1) / d) (x2 / d) _ (Acc.refl hc.1 hc.2.1) run_overStep
  (fun w' h=>by have:=overStep_any (w.heap.size+1+1+1) (w.heap.size+1) 0 x2 d w' h.cell h.free (h.keep hc.2.2.2 (by omega)) (by omega) (by omega) (by omega) h2 h2' d0 d1;rw [e0] at this;exact this)
  (fun w' h=>overStep_any _ _ _ _ _ w' h.cell h.free (h.keep hc.2.2.2 (by omega)) (by omega) r2 r2' h1 h1' d0 d1)
  (fun w' h=>overStep_any _ _ _ _ _ w' h.cell h.free (h.keep hc.2.2.2 (by omega)) (by omega) r1 r1' h0 h0' d0 d1)).mono ?_
 rintro e w1 ⟨he,hA⟩;have hR:Trio w1 (w.heap.size+1+1) (.int .u32 0) (.int .u32 0) (.int .u32 0):=hc.2.2.1.acc hA (by omega);have HB:Hid (Below w.heap.size w w1):=hA.below hb3 (by omega);have hcell:=hA.cell;have hsz:w.heap.size+1+1+1<w1.heap.size:=Nat.lt_of_lt_of_le hA.old hA.size;have z0:0≤((((x2 % d)*4294967296+x1) % d)*4294967296+x0) % d:=Int.emod_nonneg _ (by omega);have z1:((((x2 % d)*4294967296+x1) % d)*4294967296+x0) % d<d:=Int.emod_lt_of_pos _ d0
 have HE:Hid (Ending.returned (.tuple #[wv (overW ⟨x0,x1,x2⟩ d),.int .u32 (overR ⟨x0,x1,x2⟩ d),zI 0])=Ending.returned (.tuple #[.agg #[.int .u32 (((((x2 % d)*4294967296+x1) % d)*4294967296+x0) / d),.int .u32 (((x2 % d)*4294967296+x1) / d),.int .u32 (x2 / d)],.int .u32 (((((x2 % d)*4294967296+x1) % d)*4294967296+x0) % d),zI 0])):=by
  have:Ending.returned (.tuple #[wv (overW ⟨x0,x1,x2⟩ d),.int .u32 (overR ⟨x0,x1,x2⟩ d),zI 0])=Ending.returned (.tuple #[.agg #[.int .u32 (((((x2 % d)*4294967296+x1) % d)*4294967296+x0) / d),.int .u32 (((x2 % d)*4294967296+x1) / d),.int .u32 (x2 / d)],.int .u32 (((((x2 % d)*4294967296+x1) % d)*4294967296+x0) % d),zI 0]):=rfl;exact this
 clear hA hc hb3 e0 r1 r1' r2 r2';have HE2:Hid (e = .returned (.agg #[.int .u32 (((((x2 % d)*4294967296+x1) % d)*4294967296+x0) / d),.int .u32 (((x2 % d)*4294967296+x1) / d),.int .u32 (x2 / d)])):=he;clear he;generalize hz:((((x2 % d)*4294967296+x1) % d)*4294967296+x0) % d=z at hcell z0 z1 HE HE2;generalize hy0:((((x2 % d)*4294967296+x1) % d)*4294967296+x0) / d=y0 at HE HE2;generalize hy1:((x2 % d)*4294967296+x1) / d=y1 at HE HE2;generalize hy2:x2 / d=y2 at HE HE2;clear hz hy0 hy1 hy2;obtain rfl:=HE2.o;clear HE2;have hR:=hR.alloc (.cells #[.int .u32 y0,.int .u32 y1,.int .u32 y2] 131);have r0:=hR.c0;have r1:=hR.c1;have r2:=hR.c2;have g0:=hR.free 0;have g1:=hR.free 1;have g2:=hR.free 2;have HR:Hid (Trio (w1.alloc (.cells #[.int .u32 y0,.int .u32 y1,.int .u32 y2] 131)) (w.heap.size+1+1) (.int .u32 0) (.int .u32 0) (.int .u32 0)):=hR;clear hR;go_wp2_with fail;go_region
 all_goals go_wp2_with fail
 have RR:=((HR.o.set0 (.int .u32 y0)).set1 (.int .u32 y1)).set2 (.int .u32 y2);refine bodyPost_ret (v:= .tuple #[.agg #[.int .u32 y0,.int .u32 y1,.int .u32 y2],.int .u32 z,zI 0]) (by simp [results,Tryz.results88,RR.c0,RR.c1,RR.c2,go_sem]) rfl ⟨HE.o.symm,?_⟩;exact below_put (HB.o.alloc HB.o.size _) _ _ _ _ _ _ _ (by omega)
def Dg (w:World) (D:Nat) (d:Nat→Int):Prop:=w.heap[D]?=some (.cells ((List.range 29).map fun i=>Value.int .u8 (d i)).toArray 174 (0,0))
variable {w w':World} {D:Nat} {d:Nat→Int}
theorem Dg.cell (h:Dg w D d) {i:Nat} (hi:i<29):w.cell? ⟨D,i,none⟩=some (.int .u8 (d i)):=by unfold Dg at h;simp [World.cell?,h,hi]
theorem Dg.free (h:Dg w D d) (i:Nat):w.frozen? ⟨D,i,none⟩=false:=by unfold Dg at h;simp [World.frozen?,h]
theorem Dg.lt (h:Dg w D d):D<w.heap.size:=by
 by_cases hh:D<w.heap.size
 ·exact hh
 ·unfold Dg at h;rw [Array.getElem?_eq_none (by omega)] at h;cases h
theorem Dg.below (h:Dg w D d) (hb:Below w.heap.size w w'):Dg w' D d:=by
 have hlt:=h.lt;unfold Dg at *;rw [hb.block D hlt];exact h
theorem Dg.other (h:Dg w D d) {G:Nat} (i:Nat) (u:Value) (hne:G≠D):Dg (w.setCell ⟨G,i,none⟩ u) D d:=by
 unfold Dg at *;simp only [World.setCell,Array.getElem?_modify];rw [if_neg hne];exact h
def updd (d:Nat→Int) (i:Nat) (v:Int):Nat→Int:=fun k=>if k=i then v else d k
theorem Dg.set (h:Dg w D d) (i:Nat) (v:Int):Dg (w.setCell ⟨D,i,none⟩ (.int .u8 v)) D (updd d i v):=by
 unfold Dg at *;simp only [World.setCell,Array.getElem?_modify,h,if_true,Option.map_some]
 congr 2
 simp only [Option.isSome_none,Bool.false_eq_true,if_false];apply Array.ext';simp only [Array.toList_setIfInBounds];apply List.ext_getElem?;intro k;by_cases hk:k<29
 ·by_cases e:k=i
  ·subst e;simp [updd,hk]
  ·rw [List.getElem?_set_ne (by omega)];simp [updd,hk,e]
 ·rw [List.getElem?_eq_none (by simp;omega),List.getElem?_eq_none (by simp;omega)]
def dsOf (d:Nat→Int) (t:Nat):List Int:=(List.range t).map fun i=>d (29 - t+i)
theorem dsOf_len (d:Nat→Int) (t:Nat):(dsOf d t).length=t:=by simp [dsOf]
theorem dsOf_upd (d:Nat→Int) (t:Nat) (v:Int) (ht:t<29):dsOf (updd d (28 - t) v) (t+1)=v :: dsOf d t:=by
 unfold dsOf;rw [List.range_succ_eq_map,List.map_cons,List.map_map]
 congr 1
 ·simp [updd]
 ·apply List.map_congr_left;intro i hi;simp [updd]
  congr 1
  omega
theorem dg_new (w:World) (o:Obj):Dg ((w.alloc o).alloc (.cells ((List.range 29).map fun _=>Value.int .u8 0).toArray 174)) (w.heap.size+1) (fun _=>0):=by
 show ((w.heap.push o).push _)[w.heap.size+1]?=_;have:w.heap.size+1=(w.heap.push o).size:=by simp
 rw [this,Array.getElem?_push_size]
def ShowInv (V:Nat) (X:W3) (d:Nat→Int) (t:Nat):Prop:=
 (t=0∧X.val=V)∨(0<t∧X.val=0∧decL V=dsOf d t)∨(0<t∧0<X.val∧decL V=decL X.val.toNat++dsOf d t)
theorem show_more {V:Nat} {X:W3} {d:Nat→Int} {t:Nat} (hV:(V:Int)<top) (h:ShowInv V X d t) (hgo:t=0∨0<X.val) (hX:X.ok) :
  t<29∧ShowInv V (overW X 10) (updd d (28 - t) (48+overR X 10)) (t+1):=by
 have hv:=over_val X 10;have hr:=over_left (w:=X) 10 (by omega);have hq:=(W3.bd (over_ok hX (d:=10) (by omega))).1;have hlen:=decL_len29 V hV
 have ht:t<29:=by
  rcases h with ⟨h1,_⟩ | ⟨h1,h2,h3⟩ | ⟨h1,h2,h3⟩
  ·omega
  ·omega
  ·rw [h3,List.length_append,dsOf_len] at hlen;have h5:1≤(decL X.val.toNat).length:=(decL_len29 _ (by have:=(W3.bd hX).2;omega)).1;omega
 refine ⟨ht,?_⟩
 have hn:decL V=decL X.val.toNat++dsOf d t:=by
  rcases h with ⟨h1,h2⟩ | ⟨h1,h2,h3⟩ | ⟨_,_,h3⟩
  ·subst h1;rw [h2];simp [dsOf]
  ·omega
  ·exact h3
 have hds:=dsOf_upd d t (48+overR X 10) ht;by_cases h10:X.val<10
 ·right;left;have e0:(overW X 10).val=0:=by omega
  have e1:overR X 10=X.val:=by omega
  refine ⟨by omega,e0,?_⟩;rw [hn,hds,decL_one (by omega),e1];have hx0:=(W3.bd hX).1;rw [show ((X.val.toNat:Nat):Int)=X.val by omega];rfl
 ·right;right;refine ⟨by omega,by omega,?_⟩;rw [hn,hds,decL_more (by omega)];have e1:X.val.toNat / 10=(overW X 10).val.toNat:=by omega
  have e2:((X.val.toNat % 10:Nat):Int)=overR X 10:=by omega
  rw [e1,e2,List.append_assoc];rfl
theorem zero_iff {X:W3} (hX:X.ok):X.val=0↔X=⟨0,0,0⟩:=by
 obtain ⟨⟨h1,_⟩,⟨h2,_⟩,h3,_⟩:=hX;constructor
 ·intro h;unfold W3.val at h;obtain ⟨a,b,c⟩:=X;simp only at *;have:a=0:=by omega
  have:b=0:=by omega
  have:c=0:=by omega
  subst_vars;rfl
 ·intro h;rw [h];rfl
def strOf (ns:List Int):ByteArray:=ns.foldl (fun r n=>r.push (UInt8.ofNat n.toNat)) ByteArray.empty
theorem conv_ds (w:World) (D:Nat) (d:Nat→Int) (t:Nat) (ht:t≤29) (h:Dg w D d) :
  (convert 177 9 (.slice (some ⟨D,29 - t,none⟩) t t)).run Tryz.prog w = .ok (.string (strOf (dsOf d t))) w:=by
 rw [run_convert_bytes_string _ _ _ _ _ _ _ Tryz.underlying177 Tryz.underlying5 Tryz.underlying9,run_bytesToString _ _ _ _ (dsOf d t)]
 ·rfl
 ·have:=run_loadCells (P:=Tryz.prog) w ⟨D,29 - t,none⟩ t (fun i=> .int .u8 (d (29 - t+i))) (fun j hj=>by rw [Addr.add_lit];exact h.cell (by omega));rw [this]
  congr 2
  simp [dsOf]
theorem slice_ds (D t:Nat) (w:World) (h0:0<t) (h1:t≤29) :
  (Instr.sliceAt 174 (.pointer (some ⟨D,0,none⟩)) (some (zI ((29 - t:Nat):Int))) none none).run Tryz.prog w = .ok (.slice (some ⟨D,29 - t,none⟩) t t) w:=by
 have e2:29 - (29 - t)=t:=by omega
 simp [Instr.sliceAt,Instr.sliceBounds,Instr.sliceBound,asIntOf,run_underlying Tryz.underlying174,go_sem,e2];omega
theorem show_any (x:W3) (w:World) (hx:x.ok) :
  Calls Tryz.prog 53 #[wv x] w fun e w'=>e = .returned (.string (strOf (decL x.val.toNat)))∧Below w.heap.size w w':=by
 have hxb:=W3.bd hx;have HX:Hid (x.ok):=hx;have HB0:Hid (∀ o1 o2:Obj,Below w.heap.size w ((w.alloc o1).alloc o2)):=fun o1 o2=>bel2 w o1 o2;clear hx;go_enter Tryz.func53,Tryz.ntmps53;go_wp2_with fail;go_loopw [4] (fun v wr=>∃ (t:Nat) (X:W3) (d:Nat→Int),t≤29∧v=zI ((29 - t:Nat):Int)∧X.ok∧Wat wr w.heap.size X∧Dg wr (w.heap.size+1) d∧Below w.heap.size w wr∧ShowInv x.val.toNat X d t) (fun v _=>(intOf v).toNat)
 case atStart=>exact ⟨0,x,fun _=>0,by omega,rfl,HX.o,trio_a _ _ _ _ _,dg_new _ _,bel2 _ _ _,.inl ⟨rfl,by omega⟩⟩
 case round=>
  obtain ⟨t,X,d,ht,rfl,hX,hT,hD,hb,hi⟩:=hrel;by_cases hgo:t=0∨0<X.val
  ·obtain ⟨ht29,hm⟩:=show_more (by omega) hi hgo hX;have HM:Hid (ShowInv x.val.toNat (overW X 10) (updd d (28 - t) (48+overR X 10)) (t+1)):=hm;have hz:=(zero_iff hX)
   have HT:Hid (Wat wr w.heap.size X):=hT;have HD:Hid (Dg wr (w.heap.size+1) d):=hD;have HB:Hid (Below w.heap.size w wr):=hb;have c0:=hT.c0;have c1:=hT.c1;have c2:=hT.c2;clear hT hD hb hi hm;have e28:((29 - t:Nat):Int) - 1=((28 - t:Nat):Int):=by omega
   have g29:28 - t<29:=by omega
   have HG:Hid (29 - (t+1)=28 - t):=(by omega:29 - (t+1)=28 - t)
   by_cases h0:t=0
   ·have e29:(((29 - t:Nat):Int) == 29)=true:=by simp;omega
    have f29:((29 - t:Nat):Int)≤29:=by omega
    clear hgo hz ht;generalize 29 - t=f at *;generalize 28 - t=g at *;go_wp2_with fail;refine (over_any X 10 _ hX (by omega) (by omega)).mono ?_;rintro e w2 ⟨rfl,hb2⟩;have hQ:=over_ok hX (d:=10) (by omega);have hr:=over_left (w:=X) 10 (by omega);have T2:=HT.o.below hb2;have D2:=HD.o.below hb2;have B2:=HB.o.trans (hb2.mono HB.o.size);clear hb2 HT HD HB c0 c1 c2;generalize overW X 10=Q at *;generalize overR X 10=r at *;have c0:=T2.c0;have c1:=T2.c1;have c2:=T2.c2;have f0:=T2.free 0;have f1:=T2.free 1;have f2:=T2.free 2;have T3:=T2.put (.int .u32 Q.a) (.int .u32 Q.b) (.int .u32 Q.c);have D3:=((D2.other (G:=w.heap.size) 0 (.int .u32 Q.a) (by omega)).other (G:=w.heap.size) 1 (.int .u32 Q.b) (by omega)).other (G:=w.heap.size) 2 (.int .u32 Q.c) (by omega);have B3:=below_put3 B2 w.heap.size (.int .u32 Q.a) (.int .u32 Q.b) (.int .u32 Q.c) (Nat.le_refl _);have d1:=D3.cell (i:=g) (by omega);have d2:=D3.free g;have HT:Hid (Wat ((put3 w2 w.heap.size (.int .u32 Q.a) (.int .u32 Q.b) (.int .u32 Q.c)).setCell ⟨w.heap.size+1,g,none⟩ (.int .u8 (48+r))) w.heap.size Q):=T3.other _ _ (by omega);have HD:Hid (Dg ((put3 w2 w.heap.size (.int .u32 Q.a) (.int .u32 Q.b) (.int .u32 Q.c)).setCell ⟨w.heap.size+1,g,none⟩ (.int .u8 (48+r))) (w.heap.size+1) (updd d g (48+r))):=D3.set _ _;have HB:Hid (Below w.heap.size w ((put3 w2 w.heap.size (.int .u32 Q.a) (.int .u32 Q.b) (.int .u32 Q.c)).setCell ⟨w.heap.size+1,g,none⟩ (.int .u8 (48+r)))):=below_set B3 _ _ _ (by omega);clear T2 D2 B2 T3 D3 B3;obtain ⟨r0,r1⟩:=hr;generalize d g=dd at *;go_wp2_with fail;go_roundw
    case rel=>exact ⟨t+1,Q,_,by omega,by rw [HG.o],hQ,HT.o,HD.o,HB.o,HM.o⟩
    case measure=>simp [intOf];omega
   ·have hne:X≠⟨0,0,0⟩:=fun e=>by have:=hz.2 e;omega
    have q:=eq3_other hne;have e29:(((29 - t:Nat):Int) == 29)=false:=by simp;omega
    have f29:((29 - t:Nat):Int)≤29:=by omega
    clear hgo hz;generalize 29 - t=f at *;generalize 28 - t=g at *;go_wp2_with fail;refine (over_any X 10 _ hX (by omega) (by omega)).mono ?_;rintro e w2 ⟨rfl,hb2⟩;have hQ:=over_ok hX (d:=10) (by omega);have hr:=over_left (w:=X) 10 (by omega);have T2:=HT.o.below hb2;have D2:=HD.o.below hb2;have B2:=HB.o.trans (hb2.mono HB.o.size);clear hb2 HT HD HB c0 c1 c2;generalize overW X 10=Q at *;generalize overR X 10=r at *;have c0:=T2.c0;have c1:=T2.c1;have c2:=T2.c2;have f0:=T2.free 0;have f1:=T2.free 1;have f2:=T2.free 2;have T3:=T2.put (.int .u32 Q.a) (.int .u32 Q.b) (.int .u32 Q.c);have D3:=((D2.other (G:=w.heap.size) 0 (.int .u32 Q.a) (by omega)).other (G:=w.heap.size) 1 (.int .u32 Q.b) (by omega)).other (G:=w.heap.size) 2 (.int .u32 Q.c) (by omega);have B3:=below_put3 B2 w.heap.size (.int .u32 Q.a) (.int .u32 Q.b) (.int .u32 Q.c) (Nat.le_refl _);have d1:=D3.cell (i:=g) (by omega);have d2:=D3.free g;have HT:Hid (Wat ((put3 w2 w.heap.size (.int .u32 Q.a) (.int .u32 Q.b) (.int .u32 Q.c)).setCell ⟨w.heap.size+1,g,none⟩ (.int .u8 (48+r))) w.heap.size Q):=T3.other _ _ (by omega);have HD:Hid (Dg ((put3 w2 w.heap.size (.int .u32 Q.a) (.int .u32 Q.b) (.int .u32 Q.c)).setCell ⟨w.heap.size+1,g,none⟩ (.int .u8 (48+r))) (w.heap.size+1) (updd d g (48+r))):=D3.set _ _;have HB:Hid (Below w.heap.size w ((put3 w2 w.heap.size (.int .u32 Q.a) (.int .u32 Q.b) (.int .u32 Q.c)).setCell ⟨w.heap.size+1,g,none⟩ (.int .u8 (48+r)))):=below_set B3 _ _ _ (by omega);clear T2 D2 B2 T3 D3 B3;obtain ⟨r0,r1⟩:=hr;generalize d g=dd at *;go_wp2_with fail;go_roundw
    case rel=>exact ⟨t+1,Q,_,by omega,by rw [HG.o],hQ,HT.o,HD.o,HB.o,HM.o⟩
    case measure=>simp [intOf];omega
  ·have ht0:0<t:=by omega
   have hX0:X.val=0:=by have:=(W3.bd hX).1;omega
   have hXz:=(zero_iff hX).1 hX0
   have hfin:decL x.val.toNat=dsOf d t:=by
    rcases hi with h | ⟨_,_,h⟩ | h
    ·omega
    ·exact h
    ·omega
   subst hXz;have c0:=hT.c0;have c1:=hT.c1;have c2:=hT.c2;have q:=eq3_same ⟨0,0,0⟩;have e29:(((29 - t:Nat):Int) == 29)=false:=by simp;omega
   have hsl:=slice_ds (w.heap.size+1) t wr ht0 ht;have hcv:=conv_ds wr (w.heap.size+1) d t ht hD;rw [← hfin] at hcv;have HB:Hid (Below w.heap.size w wr):=hb;clear hi hgo hX0 hfin hT hD hb hX;go_wp2_with fail;go_ret;exact ⟨rfl,HB.o⟩
end words
end Go.Proofs.YtnpblpbohcegoaaGreatDoor
