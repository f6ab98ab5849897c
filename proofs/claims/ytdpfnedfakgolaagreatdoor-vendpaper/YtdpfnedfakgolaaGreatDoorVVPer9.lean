import Derived.Test.YtdpfnedfakgolaaGreatDoorVVPer5
import Derived.Test.YtdpfnedfakgolaaGreatDoorVVPer6
set_option linter.unusedVariables false
set_option linter.unusedSimpArgs false
set_option maxHeartbeats 4000000
set_option maxRecDepth 100000
namespace Go.Proofs.YtdpfnedfakgolaaGreatDoor
namespace token
open Go.RowKit
theorem bel_box (w:World) (o:Obj):Below w.heap.size w (w.alloc o):=(Below.refl _ _).alloc (Nat.le_refl _) o
end token
namespace met
open Go.RowKit ora
def Alive (w:World) (a:Option Addr):Prop:=∀ y,a=some y→y.block<w.heap.size
theorem Alive.none (w:World):Alive w none:=fun y h=>by cases h
end met
namespace book
open Go.RowKit cell
def cellsK (l:List Int) (k:Nat):Array Value:=((l.take k++List.replicate (13 - k) 0).map (fun x=>Value.int .i64 x)).toArray
theorem cellsK_size (l:List Int) (h:l.length=13) (k:Nat) (hk:k≤13):(cellsK l k).size=13:=by simp [cellsK,h];omega
theorem cellsK_next (l:List Int) (h:l.length=13) (k:Nat) (hk:k<13):(cellsK l k).setIfInBounds k (zI (l.getD k 0))=cellsK l (k+1):=by
 match l,h with
 | [a0,a1,a2,a3,a4,a5,a6,a7,a8,a9,a10,a11,a12],_=>
  match k,hk with
  | 0,_=>rfl
  | 1,_=>rfl
  | 2,_=>rfl
  | 3,_=>rfl
  | 4,_=>rfl
  | 5,_=>rfl
  | 6,_=>rfl
  | 7,_=>rfl
  | 8,_=>rfl
  | 9,_=>rfl
  | 10,_=>rfl
  | 11,_=>rfl
  | 12,_=>rfl
theorem cellsK_all (l:List Int) (h:l.length=13):cellsK l 13=(evOf l).cs:=by
 match l,h with
 | [a0,a1,a2,a3,a4,a5,a6,a7,a8,a9,a10,a11,a12],_=>rfl
theorem indexP_0 (g:Nat) (W:World):(Instr.index 251 (.agg #[.pointer (some ⟨g,0,none⟩),.pointer (some ⟨g,1,none⟩),.pointer (some ⟨g,2,none⟩),.pointer (some ⟨g,3,none⟩),.pointer (some ⟨g,4,none⟩),.pointer (some ⟨g,5,none⟩),.pointer (some ⟨g,6,none⟩),.pointer (some ⟨g,7,none⟩),.pointer (some ⟨g,8,none⟩),.pointer (some ⟨g,9,none⟩),.pointer (some ⟨g,10,none⟩),.pointer (some ⟨g,11,none⟩),.pointer (some ⟨g,12,none⟩)]) (zI 0)).run Tryz.prog W = .ok (.pointer (some ⟨g,0,none⟩)) W:=by kernel_rfl
theorem indexP_1 (g:Nat) (W:World):(Instr.index 251 (.agg #[.pointer (some ⟨g,0,none⟩),.pointer (some ⟨g,1,none⟩),.pointer (some ⟨g,2,none⟩),.pointer (some ⟨g,3,none⟩),.pointer (some ⟨g,4,none⟩),.pointer (some ⟨g,5,none⟩),.pointer (some ⟨g,6,none⟩),.pointer (some ⟨g,7,none⟩),.pointer (some ⟨g,8,none⟩),.pointer (some ⟨g,9,none⟩),.pointer (some ⟨g,10,none⟩),.pointer (some ⟨g,11,none⟩),.pointer (some ⟨g,12,none⟩)]) (zI 1)).run Tryz.prog W = .ok (.pointer (some ⟨g,1,none⟩)) W:=by kernel_rfl
theorem indexP_2 (g:Nat) (W:World):(Instr.index 251 (.agg #[.pointer (some ⟨g,0,none⟩),.pointer (some ⟨g,1,none⟩),.pointer (some ⟨g,2,none⟩),.pointer (some ⟨g,3,none⟩),.pointer (some ⟨g,4,none⟩),.pointer (some ⟨g,5,none⟩),.pointer (some ⟨g,6,none⟩),.pointer (some ⟨g,7,none⟩),.pointer (some ⟨g,8,none⟩),.pointer (some ⟨g,9,none⟩),.pointer (some ⟨g,10,none⟩),.pointer (some ⟨g,11,none⟩),.pointer (some ⟨g,12,none⟩)]) (zI 2)).run Tryz.prog W = .ok (.pointer (some ⟨g,2,none⟩)) W:=by kernel_rfl
theorem indexP_3 (g:Nat) (W:World):(Instr.index 251 (.agg #[.pointer (some ⟨g,0,none⟩),.pointer (some ⟨g,1,none⟩),.pointer (some ⟨g,2,none⟩),.pointer (some ⟨g,3,none⟩),.pointer (some ⟨g,4,none⟩),.pointer (some ⟨g,5,none⟩),.pointer (some ⟨g,6,none⟩),.pointer (some ⟨g,7,none⟩),.pointer (some ⟨g,8,none⟩),.pointer (some ⟨g,9,none⟩),.pointer (some ⟨g,10,none⟩),.pointer (some ⟨g,11,none⟩),.pointer (some ⟨g,12,none⟩)]) (zI 3)).run Tryz.prog W = .ok (.pointer (some ⟨g,3,none⟩)) W:=by kernel_rfl
theorem indexP_4 (g:Nat) (W:World):(Instr.index 251 (.agg #[.pointer (some ⟨g,0,none⟩),.pointer (some ⟨g,1,none⟩),.pointer (some ⟨g,2,none⟩),.pointer (some ⟨g,3,none⟩),.pointer (some ⟨g,4,none⟩),.pointer (some ⟨g,5,none⟩),.pointer (some ⟨g,6,none⟩),.pointer (some ⟨g,7,none⟩),.pointer (some ⟨g,8,none⟩),.pointer (some ⟨g,9,none⟩),.pointer (some ⟨g,10,none⟩),.pointer (some ⟨g,11,none⟩),.pointer (some ⟨g,12,none⟩)]) (zI 4)).run Tryz.prog W = .ok (.pointer (some ⟨g,4,none⟩)) W:=by kernel_rfl
theorem indexP_5 (g:Nat) (W:World):(Instr.index 251 (.agg #[.pointer (some ⟨g,0,none⟩),.pointer (some ⟨g,1,none⟩),.pointer (some ⟨g,2,none⟩),.pointer (some ⟨g,3,none⟩),.pointer (some ⟨g,4,none⟩),.pointer (some ⟨g,5,none⟩),.pointer (some ⟨g,6,none⟩),.pointer (some ⟨g,7,none⟩),.pointer (some ⟨g,8,none⟩),.pointer (some ⟨g,9,none⟩),.pointer (some ⟨g,10,none⟩),.pointer (some ⟨g,11,none⟩),.pointer (some ⟨g,12,none⟩)]) (zI 5)).run Tryz.prog W = .ok (.pointer (some ⟨g,5,none⟩)) W:=by kernel_rfl
theorem indexP_6 (g:Nat) (W:World):(Instr.index 251 (.agg #[.pointer (some ⟨g,0,none⟩),.pointer (some ⟨g,1,none⟩),.pointer (some ⟨g,2,none⟩),.pointer (some ⟨g,3,none⟩),.pointer (some ⟨g,4,none⟩),.pointer (some ⟨g,5,none⟩),.pointer (some ⟨g,6,none⟩),.pointer (some ⟨g,7,none⟩),.pointer (some ⟨g,8,none⟩),.pointer (some ⟨g,9,none⟩),.pointer (some ⟨g,10,none⟩),.pointer (some ⟨g,11,none⟩),.pointer (some ⟨g,12,none⟩)]) (zI 6)).run Tryz.prog W = .ok (.pointer (some ⟨g,6,none⟩)) W:=by kernel_rfl
theorem indexP_7 (g:Nat) (W:World):(Instr.index 251 (.agg #[.pointer (some ⟨g,0,none⟩),.pointer (some ⟨g,1,none⟩),.pointer (some ⟨g,2,none⟩),.pointer (some ⟨g,3,none⟩),.pointer (some ⟨g,4,none⟩),.pointer (some ⟨g,5,none⟩),.pointer (some ⟨g,6,none⟩),.pointer (some ⟨g,7,none⟩),.pointer (some ⟨g,8,none⟩),.pointer (some ⟨g,9,none⟩),.pointer (some ⟨g,10,none⟩),.pointer (some ⟨g,11,none⟩),.pointer (some ⟨g,12,none⟩)]) (zI 7)).run Tryz.prog W = .ok (.pointer (some ⟨g,7,none⟩)) W:=by kernel_rfl
theorem indexP_8 (g:Nat) (W:World):(Instr.index 251 (.agg #[.pointer (some ⟨g,0,none⟩),.pointer (some ⟨g,1,none⟩),.pointer (some ⟨g,2,none⟩),.pointer (some ⟨g,3,none⟩),.pointer (some ⟨g,4,none⟩),.pointer (some ⟨g,5,none⟩),.pointer (some ⟨g,6,none⟩),.pointer (some ⟨g,7,none⟩),.pointer (some ⟨g,8,none⟩),.pointer (some ⟨g,9,none⟩),.pointer (some ⟨g,10,none⟩),.pointer (some ⟨g,11,none⟩),.pointer (some ⟨g,12,none⟩)]) (zI 8)).run Tryz.prog W = .ok (.pointer (some ⟨g,8,none⟩)) W:=by kernel_rfl
theorem indexP_9 (g:Nat) (W:World):(Instr.index 251 (.agg #[.pointer (some ⟨g,0,none⟩),.pointer (some ⟨g,1,none⟩),.pointer (some ⟨g,2,none⟩),.pointer (some ⟨g,3,none⟩),.pointer (some ⟨g,4,none⟩),.pointer (some ⟨g,5,none⟩),.pointer (some ⟨g,6,none⟩),.pointer (some ⟨g,7,none⟩),.pointer (some ⟨g,8,none⟩),.pointer (some ⟨g,9,none⟩),.pointer (some ⟨g,10,none⟩),.pointer (some ⟨g,11,none⟩),.pointer (some ⟨g,12,none⟩)]) (zI 9)).run Tryz.prog W = .ok (.pointer (some ⟨g,9,none⟩)) W:=by kernel_rfl
theorem indexP_10 (g:Nat) (W:World):(Instr.index 251 (.agg #[.pointer (some ⟨g,0,none⟩),.pointer (some ⟨g,1,none⟩),.pointer (some ⟨g,2,none⟩),.pointer (some ⟨g,3,none⟩),.pointer (some ⟨g,4,none⟩),.pointer (some ⟨g,5,none⟩),.pointer (some ⟨g,6,none⟩),.pointer (some ⟨g,7,none⟩),.pointer (some ⟨g,8,none⟩),.pointer (some ⟨g,9,none⟩),.pointer (some ⟨g,10,none⟩),.pointer (some ⟨g,11,none⟩),.pointer (some ⟨g,12,none⟩)]) (zI 10)).run Tryz.prog W = .ok (.pointer (some ⟨g,10,none⟩)) W:=by kernel_rfl
theorem indexP_11 (g:Nat) (W:World):(Instr.index 251 (.agg #[.pointer (some ⟨g,0,none⟩),.pointer (some ⟨g,1,none⟩),.pointer (some ⟨g,2,none⟩),.pointer (some ⟨g,3,none⟩),.pointer (some ⟨g,4,none⟩),.pointer (some ⟨g,5,none⟩),.pointer (some ⟨g,6,none⟩),.pointer (some ⟨g,7,none⟩),.pointer (some ⟨g,8,none⟩),.pointer (some ⟨g,9,none⟩),.pointer (some ⟨g,10,none⟩),.pointer (some ⟨g,11,none⟩),.pointer (some ⟨g,12,none⟩)]) (zI 11)).run Tryz.prog W = .ok (.pointer (some ⟨g,11,none⟩)) W:=by kernel_rfl
theorem indexP_12 (g:Nat) (W:World):(Instr.index 251 (.agg #[.pointer (some ⟨g,0,none⟩),.pointer (some ⟨g,1,none⟩),.pointer (some ⟨g,2,none⟩),.pointer (some ⟨g,3,none⟩),.pointer (some ⟨g,4,none⟩),.pointer (some ⟨g,5,none⟩),.pointer (some ⟨g,6,none⟩),.pointer (some ⟨g,7,none⟩),.pointer (some ⟨g,8,none⟩),.pointer (some ⟨g,9,none⟩),.pointer (some ⟨g,10,none⟩),.pointer (some ⟨g,11,none⟩),.pointer (some ⟨g,12,none⟩)]) (zI 12)).run Tryz.prog W = .ok (.pointer (some ⟨g,12,none⟩)) W:=by kernel_rfl
theorem indexP (g:Nat) (k:Nat) (hk:k<13) (W:World):(Instr.index 251 (.agg #[.pointer (some ⟨g,0,none⟩),.pointer (some ⟨g,1,none⟩),.pointer (some ⟨g,2,none⟩),.pointer (some ⟨g,3,none⟩),.pointer (some ⟨g,4,none⟩),.pointer (some ⟨g,5,none⟩),.pointer (some ⟨g,6,none⟩),.pointer (some ⟨g,7,none⟩),.pointer (some ⟨g,8,none⟩),.pointer (some ⟨g,9,none⟩),.pointer (some ⟨g,10,none⟩),.pointer (some ⟨g,11,none⟩),.pointer (some ⟨g,12,none⟩)]) (zI (k:Int))).run Tryz.prog W = .ok (.pointer (some ⟨g,k,none⟩)) W:=by
 match k,hk with
 | 0,_=>exact indexP_0 g W
 | 1,_=>exact indexP_1 g W
 | 2,_=>exact indexP_2 g W
 | 3,_=>exact indexP_3 g W
 | 4,_=>exact indexP_4 g W
 | 5,_=>exact indexP_5 g W
 | 6,_=>exact indexP_6 g W
 | 7,_=>exact indexP_7 g W
 | 8,_=>exact indexP_8 g W
 | 9,_=>exact indexP_9 g W
 | 10,_=>exact indexP_10 g W
 | 11,_=>exact indexP_11 g W
 | 12,_=>exact indexP_12 g W
theorem bevent (a:Option Addr) (cap:Nat) (l:List Int) (w:World) (hr:RowU w a 13 l) (hm:∀ x∈l,0≤x∧x<4294967296):Calls Tryz.prog 112 #[.slice a 13 cap] w fun e w'=>e = .returned (evOf l).v∧Below w.heap.size w w':=by
 have hlen:=hr.1;obtain ⟨b,off,rfl,lb,hc⟩:=hr.at (by decide)
 have HM:Hid (∀ k,k<13→0≤l.getD k 0∧l.getD k 0<4294967296):=fun k hk=>hm _ (by
  have hl:k<l.length:=by omega
  rw [show l.getD k 0=l[k] by simp [List.getD,List.getElem?_eq_getElem hl]]
  exact List.getElem_mem _)
 have HC:Hid (∀ W,Below w.heap.size w W→∀ k,k<13→W.cell? ⟨b,off+k,none⟩=some (.int .u32 (l.getD k 0))):=fun W hB k hk=>(hB.cell (p:=⟨b,off+k,none⟩) lb).trans (hc k hk);have HIX:Hid (∀ k:Nat,k<13→∀ W,(Instr.index 251 (.agg #[.pointer (some ⟨w.heap.size+1,0,none⟩),.pointer (some ⟨w.heap.size+1,1,none⟩),.pointer (some ⟨w.heap.size+1,2,none⟩),.pointer (some ⟨w.heap.size+1,3,none⟩),.pointer (some ⟨w.heap.size+1,4,none⟩),.pointer (some ⟨w.heap.size+1,5,none⟩),.pointer (some ⟨w.heap.size+1,6,none⟩),.pointer (some ⟨w.heap.size+1,7,none⟩),.pointer (some ⟨w.heap.size+1,8,none⟩),.pointer (some ⟨w.heap.size+1,9,none⟩),.pointer (some ⟨w.heap.size+1,10,none⟩),.pointer (some ⟨w.heap.size+1,11,none⟩),.pointer (some ⟨w.heap.size+1,12,none⟩)]) (zI (k:Int))).run Tryz.prog W = .ok (.pointer (some ⟨w.heap.size+1,k,none⟩)) W):=fun k hk W=>indexP _ k hk W;have HL:Hid (l.length=13):=hlen;clear hm hc hr lb hlen;obtain ⟨W0,HWW,HR0,HV0,HP0,HB0,-⟩:=sh3 w #[zI 0,zI 0,zI 0,zI 0,zI 0,zI 0,zI 0,zI 0,zI 0,zI 0,zI 0,zI 0,zI 0] 125 #[zI 0,zI 0,zI 0,zI 0,zI 0,zI 0,zI 0,zI 0,zI 0,zI 0,zI 0,zI 0,zI 0] 125 #[.pointer (some ⟨w.heap.size+1,0,none⟩),.pointer (some ⟨w.heap.size+1,1,none⟩),.pointer (some ⟨w.heap.size+1,2,none⟩),.pointer (some ⟨w.heap.size+1,3,none⟩),.pointer (some ⟨w.heap.size+1,4,none⟩),.pointer (some ⟨w.heap.size+1,5,none⟩),.pointer (some ⟨w.heap.size+1,6,none⟩),.pointer (some ⟨w.heap.size+1,7,none⟩),.pointer (some ⟨w.heap.size+1,8,none⟩),.pointer (some ⟨w.heap.size+1,9,none⟩),.pointer (some ⟨w.heap.size+1,10,none⟩),.pointer (some ⟨w.heap.size+1,11,none⟩),.pointer (some ⟨w.heap.size+1,12,none⟩)] 251;go_enter Tryz.func112,Tryz.ntmps112;go_upto_region 3 with fail
 rw [HWW.o];clear HWW;have p0:W0.cell? ⟨w.heap.size+1+1,0,none⟩=some (.pointer (some ⟨w.heap.size+1,0,none⟩)):=HP0.o.cell 0;have p1:W0.cell? ⟨w.heap.size+1+1,1,none⟩=some (.pointer (some ⟨w.heap.size+1,1,none⟩)):=HP0.o.cell 1;have p2:W0.cell? ⟨w.heap.size+1+1,2,none⟩=some (.pointer (some ⟨w.heap.size+1,2,none⟩)):=HP0.o.cell 2;have p3:W0.cell? ⟨w.heap.size+1+1,3,none⟩=some (.pointer (some ⟨w.heap.size+1,3,none⟩)):=HP0.o.cell 3;have p4:W0.cell? ⟨w.heap.size+1+1,4,none⟩=some (.pointer (some ⟨w.heap.size+1,4,none⟩)):=HP0.o.cell 4;have p5:W0.cell? ⟨w.heap.size+1+1,5,none⟩=some (.pointer (some ⟨w.heap.size+1,5,none⟩)):=HP0.o.cell 5;have p6:W0.cell? ⟨w.heap.size+1+1,6,none⟩=some (.pointer (some ⟨w.heap.size+1,6,none⟩)):=HP0.o.cell 6;have p7:W0.cell? ⟨w.heap.size+1+1,7,none⟩=some (.pointer (some ⟨w.heap.size+1,7,none⟩)):=HP0.o.cell 7;have p8:W0.cell? ⟨w.heap.size+1+1,8,none⟩=some (.pointer (some ⟨w.heap.size+1,8,none⟩)):=HP0.o.cell 8;have p9:W0.cell? ⟨w.heap.size+1+1,9,none⟩=some (.pointer (some ⟨w.heap.size+1,9,none⟩)):=HP0.o.cell 9;have p10:W0.cell? ⟨w.heap.size+1+1,10,none⟩=some (.pointer (some ⟨w.heap.size+1,10,none⟩)):=HP0.o.cell 10;have p11:W0.cell? ⟨w.heap.size+1+1,11,none⟩=some (.pointer (some ⟨w.heap.size+1,11,none⟩)):=HP0.o.cell 11;have p12:W0.cell? ⟨w.heap.size+1+1,12,none⟩=some (.pointer (some ⟨w.heap.size+1,12,none⟩)):=HP0.o.cell 12;go_wp2_with fail;clear HP0 p0 p1 p2 p3 p4 p5 p6 p7 p8 p9 p10 p11 p12;go_loopw [31] (fun v31 wr=>∃ (k:Nat),k≤13∧v31=zI (k:Int)∧Blk wr w.heap.size #[zI 0,zI 0,zI 0,zI 0,zI 0,zI 0,zI 0,zI 0,zI 0,zI 0,zI 0,zI 0,zI 0] 125∧Blk wr (w.heap.size+1) (cellsK l k) 125∧Below w.heap.size w wr) (fun v31 _=>13 - (intOf v31).toNat)
 case atStart=>exact ⟨0,Nat.zero_le _,rfl,HR0.o,HV0.o,HB0.o⟩
 case round=>
  obtain ⟨k,hk,rfl,hR,hV,hbl⟩:=hrel;have HR:Hid (Blk wr w.heap.size #[zI 0,zI 0,zI 0,zI 0,zI 0,zI 0,zI 0,zI 0,zI 0,zI 0,zI 0,zI 0,zI 0] 125):=hR;have HV:Hid (Blk wr (w.heap.size+1) (cellsK l k) 125):=hV;have HBL:Hid (Below w.heap.size w wr):=hbl;clear hR hV hbl HR0 HV0 HB0;by_cases hkm:k<13
  ·have hix:=HIX.o k hkm;have hz:=HM.o k hkm;have hcl:=HC.o wr HBL.o k hkm;have HNX:Hid ((cellsK l k).setIfInBounds k (zI (l.getD k 0))=cellsK l (k+1)):=cellsK_next l HL.o k hkm;have hks:k<(cellsK l k).size:=by rw [cellsK_size l HL.o k hk];exact hkm
   clear HIX HM HC;generalize l.getD k 0=z at *;have hwz:IntKind.i64.wrap z=z:=by rw [IntKind.wrap_i64];omega
   have hdl:decide ((k:Int)<13)=true:=decide_eq_true (by omega);have hb13:(0:Int)≤(k:Int)∧(k:Int)<((13:Nat):Int):=by omega
   clear hz;go_wp2_with (first | (refine wp_let1 rfl 3 _ _ rfl (w.heap.size+1) k rfl .i64 z rfl (by kernel_rfl) (cellsK l k) 125 HV.o hks ?_) | fail)
   intro W3 hU;have H3:Hid (Blk W3 (w.heap.size+1) (cellsK l (k+1)) 125):=by show Blk _ _ _ _;rw [← HNX.o];exact hU.blk
   have HR3:=shK hU HR (by omega);have HB3:=shV hU HBL (by omega);clear hU hcl;go_wp2_with fail;go_roundw
   case rel=>exact ⟨k+1,by omega,by go_num,HR3.o,H3.o,HB3.o⟩
   case measure=>simp [intOf];omega
  ·obtain rfl:k=13:=by omega
   have hdl:decide (((13:Nat):Int)<13)=false:=decide_eq_false (by omega)
   have HFN:Hid (Blk wr (w.heap.size+1) (evOf l).cs 125):=by
    show Blk _ _ _ _;rw [← cellsK_all l HL.o];exact HV.o
   clear HV;obtain ⟨v,hv⟩:∃ v,v=evOf l:=⟨_,rfl⟩
   have HVE:Hid (v=evOf l):=hv;rw [← hv] at HFN;clear hv;unfold Ev.cs at HFN;have c0:wr.cell? ⟨w.heap.size+1,0,none⟩=some (zI v.kd):=HFN.o.cell 0;have c1:wr.cell? ⟨w.heap.size+1,1,none⟩=some (zI v.me):=HFN.o.cell 1;have c2:wr.cell? ⟨w.heap.size+1,2,none⟩=some (zI v.mo):=HFN.o.cell 2;have c3:wr.cell? ⟨w.heap.size+1,3,none⟩=some (zI v.id):=HFN.o.cell 3;have c4:wr.cell? ⟨w.heap.size+1,4,none⟩=some (zI v.te):=HFN.o.cell 4;have c5:wr.cell? ⟨w.heap.size+1,5,none⟩=some (zI v.de):=HFN.o.cell 5;have c6:wr.cell? ⟨w.heap.size+1,6,none⟩=some (zI v.fe):=HFN.o.cell 6;have c7:wr.cell? ⟨w.heap.size+1,7,none⟩=some (zI v.pr):=HFN.o.cell 7;have c8:wr.cell? ⟨w.heap.size+1,8,none⟩=some (zI v.ch):=HFN.o.cell 8;have c9:wr.cell? ⟨w.heap.size+1,9,none⟩=some (zI v.un):=HFN.o.cell 9;have c10:wr.cell? ⟨w.heap.size+1,10,none⟩=some (zI v.tg):=HFN.o.cell 10;have c11:wr.cell? ⟨w.heap.size+1,11,none⟩=some (zI v.ow):=HFN.o.cell 11;have c12:wr.cell? ⟨w.heap.size+1,12,none⟩=some (zI v.bp):=HFN.o.cell 12;go_wp2_with (first | (refine zql rfl rfl rfl rfl zqu125 (by simp [Value.oneCell']) HR rfl ?_) | fail)
   intro W3 hU;have HRV:Hid (Blk W3 w.heap.size #[zI v.kd,zI v.me,zI v.mo,zI v.id,zI v.te,zI v.de,zI v.fe,zI v.pr,zI v.ch,zI v.un,zI v.tg,zI v.ow,zI v.bp] 125):=hU.blk;have HB3:=shV hU HBL (by omega);clear hU c0 c1 c2 c3 c4 c5 c6 c7 c8 c9 c10 c11 c12;obtain ⟨r0,r1,r2,r3,r4,r5,r6,r7,r8,r9,r10,r11,r12⟩:=scl13 HRV;go_wp2_with fail;exact bodyPost_ret (v:= .agg #[zI v.kd,zI v.me,zI v.mo,zI v.id,zI v.te,zI v.de,zI v.fe,zI v.pr,zI v.ch,zI v.un,zI v.tg,zI v.ow,zI v.bp]) (by simp [results,Tryz.results112,r0,r1,r2,r3,r4,r5,r6,r7,r8,r9,r10,r11,r12,go_sem]) rfl ⟨by rw [← HVE.o];rfl,HB3.o⟩
end book
namespace deb
open tar (Du du0 Came RowD Ld ErrPost TwoPost PairT)
open Go.RowKit
theorem debtT:PairT Tryz.prog 83 59:=⟨by kernel_rfl,Tryz.underlying59⟩
theorem kage:KdAge:=by
 intro w a len cap ls mo hcame hmw;have hr:=hcame.row;have HBY:Hid (len*16≤140737488351232):=hcame.bytes;have HNIL:Hid (a=none→cap=0):=hcame.nil;have HFA:Hid (Calls Tryz.prog 150 #[.slice a len cap] w fun e w'=>∃ f,e = .returned (zI f)∧FaultIs ls f∧Below w.heap.size w w'):=pcheck a len cap ls w hr hcame.most;have HIM:Hid (∀ W,Calls Tryz.prog 153 #[zI 0,zI 2400,zI mo] W fun e w'=>e = .returned (.bool (decide (0≤mo∧mo≤2400)))∧w'=W):=fun W=>dwithin 0 2400 mo W;have HROW0:Hid (RowD w a len ls):=hr;clear hcame hr hmw;go_enter Tryz.func152,Tryz.ntmps152;go_wp2_with fail;go_step3;go_wp2_with fail;refine HFA.o.mono ?_;rintro e w1 ⟨f,rfl,hf,hb1⟩;have HB1:Hid (Below w.heap.size w w1):=hb1;have HF:Hid (FaultIs ls f):=hf;clear hb1 HFA;by_cases h0:f=0
 ·subst h0;have hm:=hf.ok.1 rfl;have HM:Hid (Mays ls):=hm;have HROW:Hid (RowD w1 a len ls):=HROW0.o.below HB1.o;have HLEN:Hid (ls.length=len):=HROW.o.1;have hl8:len≤8:=by have:=hm.1;have:=HLEN.o;omega
  clear hf hm HROW0 HF;by_cases hmm:0≤mo∧mo≤2400
  ·rw [decide_eq_true hmm] at HIM;have HMO:Hid (0≤mo∧mo≤2400):=hmm;obtain ⟨m,rfl⟩:=Int.eq_ofNat_of_zero_le hmm.1;have hm2:m≤2400:=by omega
   have HMT:Hid ((m:Int).toNat=m):=by show _=_;omega
   clear hmm;go_wp2_with fail;refine (HIM.o _).mono ?_;rintro e w2 ⟨rfl,hw2⟩;subst hw2;clear HIM;cases a with
   | none=>
    have hc0:=HNIL.o rfl;have hl0:len=0:=by rcases HROW.o.2 with h | ⟨b,off,h,_⟩;exact h;cases h
    subst hc0 hl0;have happ:∀ w:World,(Builtin.append_ #[59,59] 59 #[zS,zS]).run Tryz.prog w = .ok (zS) w:=fun w=>by kernel_rfl
    have HAI:Hid (AgeIs ls (m:Int) (ageAll ls m) 0):= .inr (.inr ⟨HM.o,HMO.o,rfl,by rw [HMT.o]⟩)
    have HZ:Hid (ageAll ls m=[]):=by
     obtain rfl:ls=[]:=List.eq_nil_of_length_eq_zero HLEN.o;rfl
    go_wp2_with fail;go_step3;go_wp2_with fail;go_loopg [22] 0 (fun g z wr=>z=zI 0∧wr=w2)
    case atStart=>exact ⟨rfl,rfl⟩
    case round=>
     obtain ⟨rfl,rfl⟩:=hrel;go_wp2_with fail
     try rw [Exit.noGoto_ret]
     go_ret2;exact ⟨none,0,0,_,0,rfl,HAI.o,by rw [HZ.o];exact fresh_nil _ _,HB1.o⟩
   | some A=>
    go_wp2_with (first
     | (at_builtin;refine tar.wp_pairs debtT rfl _ _ rfl w2.heap.size A len cap ls rfl rfl HROW.o HBY.o (Nat.le_refl _) ?_)
     | fail)
    intro v3 w3 hown hg;obtain ⟨a3,cap3,hv3,hcm⟩:=ld_mays hown HM.o;rw [HLEN.o] at hv3;subst hv3;have HL3:Hid (Ld 83 w3 w2.heap.size (.slice a3 len cap3) ls):=hown;have HB3:Hid (Below w2.heap.size w2 w3):=(Below.refl _ _).grown hg (Nat.le_refl _) (fun k hk=>by cases hk);clear hown hg hcm;go_wp2_with fail;go_step3;go_wp2_with fail;have HMIX:Hid (Ld 83 w3 w2.heap.size (.slice a3 len cap3) (mixK ls m 0)):=HL3.o;go_loopg [22] len (fun g z wr=>∃ k:Nat,k+g=len∧z=zI (k:Int)∧Ld 83 wr w2.heap.size (.slice a3 len cap3) (mixK ls m k)∧Below w2.heap.size w2 wr)
    case atStart=>exact ⟨0,by omega,rfl,HMIX.o,HB3.o⟩
    case round=>
     obtain ⟨k,hkg,rfl,hl,hb⟩:=hrel;have HLK:Hid (Ld 83 wr w2.heap.size (.slice a3 len cap3) (mixK ls m k)):=hl;have HBK:Hid (Below w2.heap.size w2 wr):=hb;clear hl hb HMIX HL3 HB3;cases gk with
     | zero=>
      obtain rfl:k=len:=by omega
      have hdl:decide ((k:Int)<(k:Int))=false:=by simp
      have HAI:Hid (AgeIs ls (m:Int) (ageAll ls m) 0):= .inr (.inr ⟨HM.o,HMO.o,rfl,by rw [HMT.o]⟩);have HLE:Hid (Ld 83 wr w2.heap.size (.slice a3 k cap3) (ageAll ls m)):=by have:=HLK.o;rw [mix_all ls m k HLEN.o] at this;exact this
      have HCM:Hid (Fresh wr w.heap.size a3 k cap3 (ageAll ls m)):=by
       obtain ⟨a4,cap4,hv4,hcm⟩:=ld_fresh HLE.o (ageAll_mays HM.o m);have e:(ageAll ls m).length=k:=by rw [ageAll_len];exact HLEN.o
       rw [e] at hv4 hcm;simp only [Value.slice.injEq,true_and] at hv4;obtain ⟨rfl,rfl⟩:=hv4;exact hcm.low HB1.o.size
      have HB9:Hid (Below w.heap.size w wr):=HB1.o.trans (HBK.o.mono HB1.o.size);clear HLK HLE;generalize ageAll ls m=Z at *;go_wp2_with fail
      try rw [Exit.noGoto_ret]
      go_ret2;exact ⟨a3,k,cap3,Z,0,rfl,HAI.o,HCM.o,HB9.o⟩
     | succ g=>
      have hlt:k<len:=by omega
      have hdl:decide ((k:Int)<(len:Int))=true:=by simp;omega
      have hkl:k<ls.length:=by rw [HLEN.o];exact hlt
      have ho:=HM.o.2 k hkl;have HML:Hid ((mixK ls m k).length=len):=by show _=_;rw [mix_len ls m k (by omega)];exact HLEN.o
      have HSM:Hid ((mixK ls m k).set k ⟨growN (ls.getD k du0).b 0 (ls.getD k du0).a,(ls.getD k du0).b⟩=mixK ls m k):=mix_same ls m k hkl;have HNX:Hid ((mixK ls m k).set k ⟨growN (ls.getD k du0).b m (ls.getD k du0).a,(ls.getD k du0).b⟩=mixK ls m (k+1)):=mix_next ls m k hkl;have hx0:=ho.1.1;have hx1:=ho.1.2;have hy0:=ho.2.1;have hy1:=ho.2.2;clear ho hkl;generalize (ls.getD k du0).a=x at *;generalize (ls.getD k du0).b=y at *;go_wp2_with fail;go_loopg [26] m (fun g2 z wy=>∃ j:Nat,j+g2=m∧z=zI (j:Int)∧Ld 83 wy w2.heap.size (.slice a3 len cap3) ((mixK ls m k).set k ⟨growN y j x,y⟩)∧Below w2.heap.size w2 wy)
      case atStart=>exact ⟨0,by omega,rfl,by rw [HSM.o];exact HLK.o,HBK.o⟩
      case round=>
       rename_i wo
       obtain ⟨j,hjg,rfl,hl,hb⟩:=hrel;have HLJ:Hid (Ld 83 wr w2.heap.size (.slice a3 len cap3) ((mixK ls m k).set k ⟨growN y j x,y⟩)):=hl;have HBJ:Hid (Below w2.heap.size w2 wr):=hb;clear hl hb HLK HBK HSM;cases gk with
       | zero=>
        obtain rfl:j=m:=by omega
        have hdj:decide ((j:Int)<(j:Int))=false:=by simp
        have HLN:Hid (Ld 83 wr w2.heap.size (.slice a3 len cap3) (mixK ls j (k+1))):=by have:=HLJ.o;rw [HNX.o] at this;exact this
        clear HLJ HNX;go_wp2_with fail;go_roundg g
        case measure=>omega
        case rel=>exact ⟨k+1,by omega,by first | rfl | go_num,HLN.o,HBJ.o⟩
       | succ g2=>
        have hdj:decide ((j:Int)<(m:Int))=true:=by simp;omega
        have hjm:j<m:=by omega
        obtain ⟨gg,cur,hga,hgb,hblk,hcs,hcc⟩:=ld_lies HLJ.o (by omega);have hcell:=hcc k (by rw [List.length_set,HML.o];exact hlt)
        have hat:((mixK ls m k).set k ⟨growN y j x,y⟩).getD k du0=⟨growN y j x,y⟩:=by
         have:k<(mixK ls m k).length:=by rw [HML.o];exact hlt
         simp [List.getD,this]
        rw [hat] at hcell;obtain ⟨off,hoff⟩:∃ off:Nat,off=0:=⟨0,rfl⟩
        have HOFF:Hid (off=0):=hoff;have hga2:a3=some ⟨gg,off,none⟩:=by rw [hga,hoff]
        have c0:wr.cell? ⟨gg,off+k*2,none⟩=some (zI (growN y j x)):=by rw [hoff,Nat.zero_add];exact hcell.1
        have c1:wr.cell? ⟨gg,off+k*2+1,none⟩=some (zI y):=by rw [hoff,Nat.zero_add];exact hcell.2
        have HBL:Hid (Blk wr gg cur 83):=hblk;have hin:off+k*2<cur.size:=by omega
        have HGB:Hid (w2.heap.size≤gg):=hgb;clear hcell hat hcc hblk hgb hga hcs hoff;subst hga2;have hgn:=growN_bd hy0 hy1 hx0 hx1 j;have hu0:0≤growN y j x:=by omega
        have hu1:=hgn.2;have HGS:Hid (growN y (j+1) x=grow y (growN y j x)):=rfl;have HGR:Hid (∀ W,Calls Tryz.prog 155 #[.agg #[zI (growN y j x),zI y]] W fun e w'=>e = .returned (zI (min (growN y j x*y / 10000) (1000000000 - growN y j x)))∧Below W.heap.size W w'):=fun W=>pgrowth _ _ W ⟨hu0,hu1⟩ ⟨hy0,hy1⟩;have HMO2:Hid (grow y (growN y j x)=growN y j x+min (growN y j x*y / 10000) (1000000000 - growN y j x)):=grow_more hu0 hu1 hy0
        have hv0:0≤min (growN y j x*y / 10000) (1000000000 - growN y j x):=by
         have:=Int.mul_nonneg hu0 hy0;generalize growN y j x*y=pp at *;omega
        have hv1:min (growN y j x*y / 10000) (1000000000 - growN y j x)≤1000000000 - growN y j x:=Int.min_le_right _ _;generalize min (growN y j x*y / 10000) (1000000000 - growN y j x)=v at *;clear hgn;by_cases hz:v=0
        ·have hvz:(v == 0)=true:=by simpa using hz
         have HST:Hid (growN y m x=growN y j x):=by
          have h1:grow y (growN y j x)=growN y j x:=by rw [HMO2.o,hz];omega
          have h2:=growN_still h1 (m - j);rw [growN_add,show j+(m - j)=m by omega] at h2;exact h2
         have HLN:Hid (Ld 83 wr w2.heap.size (.slice (some ⟨gg,off,none⟩) len cap3) (mixK ls m (k+1))):=by have:=HLJ.o;rw [← HST.o,HNX.o] at this;exact this
         clear hz HST HNX HLJ;generalize growN y j x=u at *;go_wp2_with fail;refine (HGR.o _).mono ?_;rintro e w5 ⟨rfl,hb5⟩;have HL5:Hid (Ld 83 w5 w2.heap.size (.slice (some ⟨gg,off,none⟩) len cap3) (mixK ls m (k+1))):=HLN.o.next hb5;have HB5:=shB HBJ hb5;clear hb5 HGR HLN c0 c1;go_wp2_with fail;go_roundg g
         case measure=>omega
         case rel=>exact ⟨k+1,by omega,by first | rfl | go_num,HL5.o,HB5.o⟩
        ·have hvz:(v == 0)=false:=by simpa using hz
         have HSS:Hid (((mixK ls m k).set k ⟨growN y j x,y⟩).set k ⟨growN y j x+v,y⟩=(mixK ls m k).set k ⟨growN y (j+1) x,y⟩):=by show _=_;rw [List.set_set,HGS.o,HMO2.o]
         have HAT:Hid ((((mixK ls m k).set k ⟨growN y j x,y⟩).getD k du0).b=y):=by
          have:k<(mixK ls m k).length:=by rw [HML.o];exact hlt
          show _=_;simp [List.getD,this]
         have HKL:Hid (k<((mixK ls m k).set k ⟨growN y j x,y⟩).length):=by show _<_;rw [List.length_set,HML.o];exact hlt
         clear hz HGS HMO2;generalize (mixK ls m k).set k ⟨growN y j x,y⟩=Z at *;generalize growN y j x=u at *;go_wp2_with fail;refine (HGR.o _).mono ?_;rintro e w5 ⟨rfl,hb5⟩;have HL5:Hid (Ld 83 w5 w2.heap.size (.slice (some ⟨gg,off,none⟩) len cap3) Z):=HLJ.o.next hb5;have HB5:=shB HBJ hb5;have HK5:=shN HBL hb5;have e0:w5.cell? ⟨gg,off+k*2,none⟩=some (zI u):=(hb5.cell (p:=⟨gg,off+k*2,none⟩) HBL.o.lt).trans c0;clear hb5 HGR HLJ c0 c1 HBL HBJ
         go_wp2_with (first
          | (refine wp_let1 rfl 3 _ _ rfl gg (off+k*2) rfl .i64 (u+v) rfl (by kernel_rfl) cur 83 HK5.o hin ?_)
          | fail)
         intro W6 hU
         have HL6:Hid (Ld 83 W6 w2.heap.size (.slice (some ⟨gg,off,none⟩) len cap3) ((mixK ls m k).set k ⟨growN y (j+1) x,y⟩)):=by
          obtain rfl:=HOFF.o;rw [Nat.zero_add] at hU;show Ld _ _ _ _ _;rw [← HSS.o];exact ld_put HL5.o HK5.o k HKL.o _ _ HAT.o hU
         have HB6:Hid (Below w2.heap.size w2 W6):=hU.bel _ _ HGB.o HB5.o;clear hU HL5 HK5 HB5 e0;go_wp2_with fail;go_roundg g2
         case measure=>omega
         case rel=>exact ⟨j+1,by omega,by first | rfl | go_num,HL6.o,HB6.o⟩
  ·rw [decide_eq_false hmm] at HIM;have HMO:Hid (¬ (0≤mo∧mo≤2400)):=hmm;clear hmm;go_wp2_with fail;refine (HIM.o _).mono ?_;rintro e w2 ⟨rfl,hw2⟩;subst hw2;go_wp2_with fail
   try rw [Exit.noGoto_ret]
   go_ret2;exact ⟨none,0,0,[],2,rfl,.inr (.inl ⟨HM.o,HMO.o,rfl,rfl⟩),fresh_nil _ _,HB1.o⟩
 ·have hne:(f != 0)=true:=by simpa using h0
  have HN:Hid (¬ Mays ls):=fun h=>h0 (hf.ok.2 h);clear hf h0 HIM;go_wp2_with fail
  try rw [Exit.noGoto_ret]
  go_ret2;exact ⟨none,0,0,[],f,rfl,.inl ⟨HN.o,HF.o,rfl⟩,fresh_nil _ _,HB1.o⟩
def KdRec:Prop:=∀ (W:World) (a:Option Addr) (len cap:Nat) (ls:List Du) (t bp:Int),Came W a len cap ls→(Lit.int .i64 t).wf=true→(Lit.int .i64 bp).wf=true→Calls Tryz.prog 123 #[.slice a len cap,zI t,zI bp] W fun e w'=>RecPost W ls t bp e w'
end deb
namespace acc
open tar (Du)
open Go.RowKit
def KcOpen:Prop:=∀ (W:World) (m:Int),(Lit.int .i64 m).wf=true→Calls Tryz.prog 137 #[zI m] W fun e w'=>APost W (OpenIs m) e w'
end acc
namespace book
open Go.RowKit cell
def EncGot (w:World) (v:Ev) (e:Ending) (w':World):Prop:=∃ a n cap ws f,e = .returned (.tuple #[.slice a n cap,zI f])∧EncIs v ws f∧RowU w' a n ws∧(a=none→cap=0)∧n≤cap∧n≤13∧Below w.heap.size w w'
def KEnc:Prop:=∀ (W:World) (v:Ev),wf13 v→Calls Tryz.prog 70 #[v.v] W fun e w'=>EncGot W v e w'
end book
end Go.Proofs.YtdpfnedfakgolaaGreatDoor
