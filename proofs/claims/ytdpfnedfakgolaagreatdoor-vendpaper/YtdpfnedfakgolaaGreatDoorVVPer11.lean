import Derived.Test.YtdpfnedfakgolaaGreatDoorVVPer5
import Derived.Test.YtdpfnedfakgolaaGreatDoorVVPer6
set_option linter.unusedVariables false
set_option linter.unusedSimpArgs false
set_option maxHeartbeats 4000000
set_option maxRecDepth 100000
namespace Go.Proofs.YtdpfnedfakgolaaGreatDoor
namespace words
theorem ofInt_nat (k a:Nat) (h:a<2 ^ k):(BitVec.ofInt k (a:Int)).toNat=a:=by
 rw [BitVec.ofInt_natCast,BitVec.toNat_ofNat];exact Nat.mod_eq_of_lt h
theorem wrap_u32 (n:Int):IntKind.u32.wrap n=n % 4294967296:=by simp [IntKind.wrap,IntKind.bits,IntKind.signed]
theorem or64 (a b:Nat) (ha:a<2 ^ 64) (hb:b<2 ^ 64):bits .or .u64 (a:Int) (b:Int)=((a ||| b:Nat):Int):=by
 have h:=Nat.or_lt_two_pow ha hb;show IntKind.u64.wrap ((BitVec.ofInt 64 (a:Int) ||| BitVec.ofInt 64 (b:Int)).toNat:Int)=_;rw [BitVec.toNat_or,ofInt_nat 64 a ha,ofInt_nat 64 b hb,IntKind.wrap_u64];omega
theorem and64 (a b:Nat) (ha:a<2 ^ 64) (hb:b<2 ^ 64):bits .and .u64 (a:Int) (b:Int)=((a &&& b:Nat):Int):=by
 have h:a &&& b<2 ^ 64:=Nat.and_lt_two_pow a hb;show IntKind.u64.wrap ((BitVec.ofInt 64 (a:Int) &&& BitVec.ofInt 64 (b:Int)).toNat:Int)=_;rw [BitVec.toNat_and,ofInt_nat 64 a ha,ofInt_nat 64 b hb,IntKind.wrap_u64];omega
theorem or32 (a b:Nat) (ha:a<2 ^ 32) (hb:b<2 ^ 32):bits .or .u32 (a:Int) (b:Int)=((a ||| b:Nat):Int):=by
 have h:=Nat.or_lt_two_pow ha hb;show IntKind.u32.wrap ((BitVec.ofInt 32 (a:Int) ||| BitVec.ofInt 32 (b:Int)).toNat:Int)=_;rw [BitVec.toNat_or,ofInt_nat 32 a ha,ofInt_nat 32 b hb,wrap_u32];omega
theorem andNot32 (a b:Nat) (ha:a<2 ^ 32) (hb:b<2 ^ 32):bits .andNot .u32 (a:Int) (b:Int)=((a &&& (2 ^ 32 - 1 - b):Nat):Int):=by
 have h:a &&& (2 ^ 32 - 1 - b)<2 ^ 32:=Nat.and_lt_two_pow a (by omega);show IntKind.u32.wrap ((BitVec.ofInt 32 (a:Int) &&& ~~~ BitVec.ofInt 32 (b:Int)).toNat:Int)=_;rw [BitVec.toNat_and,BitVec.toNat_not,ofInt_nat 32 a ha,ofInt_nat 32 b hb,wrap_u32];omega
theorem or_words (n x:Int) (n0:0≤n) (n1:n<4294967296) (x0:0≤x) (x1:x<4294967296):bits .or .u64 (n*4294967296) x=n*4294967296+x:=by
 obtain ⟨p,rfl⟩:=Int.eq_ofNat_of_zero_le n0;obtain ⟨q,rfl⟩:=Int.eq_ofNat_of_zero_le x0;have e:((p:Int)*4294967296)=((p*4294967296:Nat):Int):=by simp
 rw [e,or64 _ _ (by omega) (by omega)];have h:=Nat.shiftLeft_add_eq_or_of_lt (show q<2 ^ 32 by omega) p;rw [Nat.shiftLeft_eq] at h;have h2:p*4294967296 ||| q=p*4294967296+q:=h.symm
 rw [h2];simp
end words
namespace book
open Go.RowKit
def refV (f:Int):Value:= .iface 224 (.agg #[zI f])
def thrown (f:Int):List PanicEntry:=[{ v:=refV f,recovered:=false }]
theorem insist_ok (w:World):Calls Tryz.prog 134 #[zI 0] w fun e w'=>e = .returned (.tuple #[])∧w'=w:=by
 go_enter Tryz.func134,Tryz.ntmps134;go_wp2;go_end0;exact ⟨rfl,rfl⟩
theorem insist_no (f:Int) (hf:f≠0) (w:World):Calls Tryz.prog 134 #[zI f] w fun e w'=>e = .panicked (thrown f)∧w'=w:=by
 have nf:(f != 0)=true:=by simpa using hf
 clear hf;go_enter Tryz.func134,Tryz.ntmps134;go_wp2;exact ⟨rfl,rfl,rfl⟩
theorem reason_nil (w:World):Calls Tryz.prog 76 #[.nilIface] w fun e w'=>e = .returned (zI 0)∧w'=w:=by
 have hq:∀ w:World,(binOp BinOp.eql 20 .nilIface .nilIface).run Tryz.prog w = .ok (.bool true) w:=fun _=>by kernel_rfl
 go_enter Tryz.func76,Tryz.ntmps76;go_wp2;go_ret;exact ⟨rfl,rfl⟩
theorem reason_is (f:Int) (w:World):Calls Tryz.prog 76 #[refV f] w fun e w'=>e = .returned (zI f)∧Below w.heap.size w w':=by
 have hq:∀ w:World,(binOp BinOp.eql 20 (refV f) .nilIface).run Tryz.prog w = .ok (.bool false) w:=fun _=>by kernel_rfl
 have h1:∀ w:World,(Instr.typeAssert (refV f) 20 210 false).run Tryz.prog w = .ok (refV f) w:=fun _=>by kernel_rfl
 have h2:∀ w:World,(Instr.typeAssert (refV f) 210 224 true).run Tryz.prog w = .ok (.tuple #[.agg #[zI f],.bool true]) w:=fun _=>by kernel_rfl
 have HB:Hid (Below w.heap.size w (w.alloc (.cells #[zI f] 224))):=(Below.refl _ _).alloc (Nat.le_refl _) _;unfold refV at *;go_enter Tryz.func76,Tryz.ntmps76;go_wp2;go_ret;exact ⟨rfl,HB.o⟩
theorem encode_caught (g:Nat) (f0 f:Int) (w:World) (hb:Blk w g #[zI f0] 42) :
  CallsD Tryz.prog 103 #[.pointer (some ⟨g,0,none⟩)] (.panicking (thrown f)) w fun e u' w'=>e = .returned (.tuple #[])∧settle u' = .returning∧∃ W,Below w.heap.size w W∧Upd W w' g #[zI f] 42:=by
 refine callsD_of_wpS Tryz.func103 rfl fun c₀ cs hu=>?_;apply wpS_region;simp only [thrown] at hu;simp [wpOpsS,go_sem,recoverD,hu,Tryz.ntmps103,Exit.thenS];refine (reason_is f w).mono ?_;rintro e w1 ⟨rfl,hb1⟩;have hB:=hb.next hb1;have hc:w1.cell? ⟨g,0,none⟩=some (zI f0):=hB.cell 0;have hz:w1.frozen? ⟨g,0,none⟩=false:=hB.free 0;have hU:Upd w1 (w1.setCell ⟨g,0,none⟩ (zI f)) g #[zI f] 42:=upd_cells g _ [zI f] 0 w1 _ hB;simp [go_sem,hc,hz,bodyPostS,results,Tryz.results103,settle];exact ⟨w1,hb1,hU⟩
theorem encode_idle (g:Nat) (f0:Int) (w:World) (hb:Blk w g #[zI f0] 42) :
  CallsD Tryz.prog 103 #[.pointer (some ⟨g,0,none⟩)] .returning w fun e u' w'=>e = .returned (.tuple #[])∧settle u' = .returning∧∃ W,Below w.heap.size w W∧Upd W w' g #[zI 0] 42:=by
 refine callsD_of_wpS Tryz.func103 rfl fun c₀ cs hu=>?_;apply wpS_region;simp [wpOpsS,go_sem,recoverD,hu,Tryz.ntmps103,Exit.thenS];refine (reason_nil w).mono ?_;rintro e w1 ⟨rfl,rfl⟩;have hc:w1.cell? ⟨g,0,none⟩=some (zI f0):=hb.cell 0;have hz:w1.frozen? ⟨g,0,none⟩=false:=hb.free 0;have hU:Upd w1 (w1.setCell ⟨g,0,none⟩ (zI 0)) g #[zI 0] 42:=upd_cells g _ [zI 0] 0 w1 _ hb;simp [go_sem,hc,hz,bodyPostS,results,Tryz.results103,hu,settle];exact ⟨.returning,(by cases c₀;simp_all),rfl,w1,Below.refl _ _,hU⟩
theorem decode_caught (g:Nat) (f0 f:Int) (w:World) (hb:Blk w g #[zI f0] 42) :
  CallsD Tryz.prog 111 #[.pointer (some ⟨g,0,none⟩)] (.panicking (thrown f)) w fun e u' w'=>e = .returned (.tuple #[])∧settle u' = .returning∧∃ W,Below w.heap.size w W∧Upd W w' g #[zI f] 42:=by
 refine callsD_of_wpS Tryz.func111 rfl fun c₀ cs hu=>?_;apply wpS_region;simp only [thrown] at hu;simp [wpOpsS,go_sem,recoverD,hu,Tryz.ntmps111,Exit.thenS];refine (reason_is f w).mono ?_;rintro e w1 ⟨rfl,hb1⟩;have hB:=hb.next hb1;have hc:w1.cell? ⟨g,0,none⟩=some (zI f0):=hB.cell 0;have hz:w1.frozen? ⟨g,0,none⟩=false:=hB.free 0;have hU:Upd w1 (w1.setCell ⟨g,0,none⟩ (zI f)) g #[zI f] 42:=upd_cells g _ [zI f] 0 w1 _ hB;simp [go_sem,hc,hz,bodyPostS,results,Tryz.results111,settle];exact ⟨w1,hb1,hU⟩
theorem decode_idle (g:Nat) (f0:Int) (w:World) (hb:Blk w g #[zI f0] 42) :
  CallsD Tryz.prog 111 #[.pointer (some ⟨g,0,none⟩)] .returning w fun e u' w'=>e = .returned (.tuple #[])∧settle u' = .returning∧∃ W,Below w.heap.size w W∧Upd W w' g #[zI 0] 42:=by
 refine callsD_of_wpS Tryz.func111 rfl fun c₀ cs hu=>?_;apply wpS_region;simp [wpOpsS,go_sem,recoverD,hu,Tryz.ntmps111,Exit.thenS];refine (reason_nil w).mono ?_;rintro e w1 ⟨rfl,rfl⟩;have hc:w1.cell? ⟨g,0,none⟩=some (zI f0):=hb.cell 0;have hz:w1.frozen? ⟨g,0,none⟩=false:=hb.free 0;have hU:Upd w1 (w1.setCell ⟨g,0,none⟩ (zI 0)) g #[zI 0] 42:=upd_cells g _ [zI 0] 0 w1 _ hb;simp [go_sem,hc,hz,bodyPostS,results,Tryz.results111,hu,settle];exact ⟨.returning,(by cases c₀;simp_all),rfl,w1,Below.refl _ _,hU⟩
end book
namespace deb
open tar (Du du0 Came RowD Ld ErrPost TwoPost PairT)
open Go.RowKit
theorem powed (a:Option Addr) (len cap:Nat) (ls:List Du) (w:World) (hr:RowD w a len ls) (hm:Mays ls):Calls Tryz.prog 151 #[.slice a len cap] w fun e w'=>e = .returned (zI (sumD ls))∧Below w.heap.size w w':=by
 have HLEN:Hid (ls.length=len):=hr.1;have HM:Hid (Mays ls):=hm;have hl8:len≤8:=by have:=hm.1;have:=hr.1;omega
 have HROW:Hid (RowD w a len ls):=hr;clear hm hr;go_enter Tryz.func151,Tryz.ntmps151;go_wp2_with fail;go_loopw [3,8] (fun v x wr=>∃ k:Nat,k≤len∧x=zI (k:Int)∧v=zI (sumK ls k)∧Below w.heap.size w wr) (fun _ x _=>len - (intOf x).toNat)
 case atStart=>exact ⟨0,Nat.zero_le _,rfl,rfl,Below.refl _ _⟩
 case round=>
  obtain ⟨k,hk,rfl,rfl,hb⟩:=hrel;have hsb:=sumK_bd HM.o k (by rw [HLEN.o];exact hk);have HB:Hid (Below w.heap.size w wr):=hb;by_cases hlt:k<len
  ·have hdl:decide ((k:Int)<(len:Int))=true:=by simp;omega
   obtain ⟨b,off,rfl,hbl,hc⟩:=HROW.o.at (by omega);have c0:wr.cell? ⟨b,off+k*2,none⟩=some (zI (ls.getD k du0).a):=(hb.cell (p:=⟨b,off+k*2,none⟩) hbl).trans (hc k hlt).1;have c1:wr.cell? ⟨b,off+k*2+1,none⟩=some (zI (ls.getD k du0).b):=(hb.cell (p:=⟨b,off+k*2+1,none⟩) hbl).trans (hc k hlt).2;have HBA:Hid (∀ o,Below w.heap.size w (wr.alloc o)):=fun o=>hb.alloc hb.size o;have ho:=(HM.o.2 k (by rw [HLEN.o];exact hlt)).1;have HN:Hid (sumK ls k+(ls.getD k du0).a=sumK ls (k+1)):=(sumK_next ls k).symm;clear hc hb;generalize sumK ls k=s at *;generalize (ls.getD k du0).a=x at *;generalize (ls.getD k du0).b=y at *;go_wp2_with fail;go_roundw
   case rel=>exact ⟨k+1,by omega,by go_num,by rw [← HN.o],HBA.o _⟩
   case measure=>simp [intOf];omega
  ·obtain rfl:k=len:=by omega
   have hdl:decide ((k:Int)<(k:Int))=false:=by simp
   have HV:Hid (sumK ls k=sumD ls):=by have:=sumK_all ls;rw [HLEN.o] at this;exact this
   generalize sumK ls k=s at *;clear hb;go_wp2_with fail;go_ret;exact ⟨congrArg (fun z=>Ending.returned (Value.int .i64 z)) HV.o,HB.o⟩
end deb
namespace book
open Go.RowKit cell
theorem take_next (l:List Int) (k:Nat) (h:k<l.length):l.take k++[l.getD k 0]=l.take (k+1):=by
 rw [List.take_add_one];simp [List.getD,List.getElem?_eq_getElem h]
theorem index13_0 (a0 a1 a2 a3 a4 a5 a6 a7 a8 a9 a10 a11 a12:Int) (W:World):(Instr.index 249 (.agg #[zI a0,zI a1,zI a2,zI a3,zI a4,zI a5,zI a6,zI a7,zI a8,zI a9,zI a10,zI a11,zI a12]) (zI 0)).run Tryz.prog W = .ok (zI a0) W:=by kernel_rfl
theorem index13_1 (a0 a1 a2 a3 a4 a5 a6 a7 a8 a9 a10 a11 a12:Int) (W:World):(Instr.index 249 (.agg #[zI a0,zI a1,zI a2,zI a3,zI a4,zI a5,zI a6,zI a7,zI a8,zI a9,zI a10,zI a11,zI a12]) (zI 1)).run Tryz.prog W = .ok (zI a1) W:=by kernel_rfl
theorem index13_2 (a0 a1 a2 a3 a4 a5 a6 a7 a8 a9 a10 a11 a12:Int) (W:World):(Instr.index 249 (.agg #[zI a0,zI a1,zI a2,zI a3,zI a4,zI a5,zI a6,zI a7,zI a8,zI a9,zI a10,zI a11,zI a12]) (zI 2)).run Tryz.prog W = .ok (zI a2) W:=by kernel_rfl
theorem index13_3 (a0 a1 a2 a3 a4 a5 a6 a7 a8 a9 a10 a11 a12:Int) (W:World):(Instr.index 249 (.agg #[zI a0,zI a1,zI a2,zI a3,zI a4,zI a5,zI a6,zI a7,zI a8,zI a9,zI a10,zI a11,zI a12]) (zI 3)).run Tryz.prog W = .ok (zI a3) W:=by kernel_rfl
theorem index13_4 (a0 a1 a2 a3 a4 a5 a6 a7 a8 a9 a10 a11 a12:Int) (W:World):(Instr.index 249 (.agg #[zI a0,zI a1,zI a2,zI a3,zI a4,zI a5,zI a6,zI a7,zI a8,zI a9,zI a10,zI a11,zI a12]) (zI 4)).run Tryz.prog W = .ok (zI a4) W:=by kernel_rfl
theorem index13_5 (a0 a1 a2 a3 a4 a5 a6 a7 a8 a9 a10 a11 a12:Int) (W:World):(Instr.index 249 (.agg #[zI a0,zI a1,zI a2,zI a3,zI a4,zI a5,zI a6,zI a7,zI a8,zI a9,zI a10,zI a11,zI a12]) (zI 5)).run Tryz.prog W = .ok (zI a5) W:=by kernel_rfl
theorem index13_6 (a0 a1 a2 a3 a4 a5 a6 a7 a8 a9 a10 a11 a12:Int) (W:World):(Instr.index 249 (.agg #[zI a0,zI a1,zI a2,zI a3,zI a4,zI a5,zI a6,zI a7,zI a8,zI a9,zI a10,zI a11,zI a12]) (zI 6)).run Tryz.prog W = .ok (zI a6) W:=by kernel_rfl
theorem index13_7 (a0 a1 a2 a3 a4 a5 a6 a7 a8 a9 a10 a11 a12:Int) (W:World):(Instr.index 249 (.agg #[zI a0,zI a1,zI a2,zI a3,zI a4,zI a5,zI a6,zI a7,zI a8,zI a9,zI a10,zI a11,zI a12]) (zI 7)).run Tryz.prog W = .ok (zI a7) W:=by kernel_rfl
theorem index13_8 (a0 a1 a2 a3 a4 a5 a6 a7 a8 a9 a10 a11 a12:Int) (W:World):(Instr.index 249 (.agg #[zI a0,zI a1,zI a2,zI a3,zI a4,zI a5,zI a6,zI a7,zI a8,zI a9,zI a10,zI a11,zI a12]) (zI 8)).run Tryz.prog W = .ok (zI a8) W:=by kernel_rfl
theorem index13_9 (a0 a1 a2 a3 a4 a5 a6 a7 a8 a9 a10 a11 a12:Int) (W:World):(Instr.index 249 (.agg #[zI a0,zI a1,zI a2,zI a3,zI a4,zI a5,zI a6,zI a7,zI a8,zI a9,zI a10,zI a11,zI a12]) (zI 9)).run Tryz.prog W = .ok (zI a9) W:=by kernel_rfl
theorem index13_10 (a0 a1 a2 a3 a4 a5 a6 a7 a8 a9 a10 a11 a12:Int) (W:World):(Instr.index 249 (.agg #[zI a0,zI a1,zI a2,zI a3,zI a4,zI a5,zI a6,zI a7,zI a8,zI a9,zI a10,zI a11,zI a12]) (zI 10)).run Tryz.prog W = .ok (zI a10) W:=by kernel_rfl
theorem index13_11 (a0 a1 a2 a3 a4 a5 a6 a7 a8 a9 a10 a11 a12:Int) (W:World):(Instr.index 249 (.agg #[zI a0,zI a1,zI a2,zI a3,zI a4,zI a5,zI a6,zI a7,zI a8,zI a9,zI a10,zI a11,zI a12]) (zI 11)).run Tryz.prog W = .ok (zI a11) W:=by kernel_rfl
theorem index13_12 (a0 a1 a2 a3 a4 a5 a6 a7 a8 a9 a10 a11 a12:Int) (W:World):(Instr.index 249 (.agg #[zI a0,zI a1,zI a2,zI a3,zI a4,zI a5,zI a6,zI a7,zI a8,zI a9,zI a10,zI a11,zI a12]) (zI 12)).run Tryz.prog W = .ok (zI a12) W:=by kernel_rfl
theorem index13 (a0 a1 a2 a3 a4 a5 a6 a7 a8 a9 a10 a11 a12:Int) (k:Nat) (hk:k<13) (W:World):(Instr.index 249 (.agg #[zI a0,zI a1,zI a2,zI a3,zI a4,zI a5,zI a6,zI a7,zI a8,zI a9,zI a10,zI a11,zI a12]) (zI (k:Int))).run Tryz.prog W = .ok (zI ([a0,a1,a2,a3,a4,a5,a6,a7,a8,a9,a10,a11,a12].getD k 0)) W:=by
 match k,hk with
 | 0,_=>exact index13_0 a0 a1 a2 a3 a4 a5 a6 a7 a8 a9 a10 a11 a12 W
 | 1,_=>exact index13_1 a0 a1 a2 a3 a4 a5 a6 a7 a8 a9 a10 a11 a12 W
 | 2,_=>exact index13_2 a0 a1 a2 a3 a4 a5 a6 a7 a8 a9 a10 a11 a12 W
 | 3,_=>exact index13_3 a0 a1 a2 a3 a4 a5 a6 a7 a8 a9 a10 a11 a12 W
 | 4,_=>exact index13_4 a0 a1 a2 a3 a4 a5 a6 a7 a8 a9 a10 a11 a12 W
 | 5,_=>exact index13_5 a0 a1 a2 a3 a4 a5 a6 a7 a8 a9 a10 a11 a12 W
 | 6,_=>exact index13_6 a0 a1 a2 a3 a4 a5 a6 a7 a8 a9 a10 a11 a12 W
 | 7,_=>exact index13_7 a0 a1 a2 a3 a4 a5 a6 a7 a8 a9 a10 a11 a12 W
 | 8,_=>exact index13_8 a0 a1 a2 a3 a4 a5 a6 a7 a8 a9 a10 a11 a12 W
 | 9,_=>exact index13_9 a0 a1 a2 a3 a4 a5 a6 a7 a8 a9 a10 a11 a12 W
 | 10,_=>exact index13_10 a0 a1 a2 a3 a4 a5 a6 a7 a8 a9 a10 a11 a12 W
 | 11,_=>exact index13_11 a0 a1 a2 a3 a4 a5 a6 a7 a8 a9 a10 a11 a12 W
 | 12,_=>exact index13_12 a0 a1 a2 a3 a4 a5 a6 a7 a8 a9 a10 a11 a12 W
theorem make13 (w:World):(Instr.makeSlice 31 (zI 0) (zI 13)).run Tryz.prog w = .ok (.slice (some ⟨w.heap.size,0,none⟩) 0 13) (w.alloc (.cells (madeCells (Value.int .u32 0).cells 13) 87)):=by
 obtain ⟨i0,hi,hz0,hz1,hz2⟩:=info_parts info_u32;have:=run_make (P:=Tryz.prog) w 31 87 i0 (.int .u32 0) Tryz.underlying31 hi hz0 .i64 .i64 0 13 (by omega) (by omega) (by rw [hz2];decide) (by omega);rw [hz1] at this;exact this
theorem bwords (v:Ev) (hm:∀ x∈evL v,0≤x∧x<4294967296) (w:World):Calls Tryz.prog 105 #[.agg #[zI v.kd,zI v.me,zI v.mo,zI v.id,zI v.te,zI v.de,zI v.fe,zI v.pr,zI v.ch,zI v.un,zI v.tg,zI v.ow,zI v.bp]] w fun e w'=>∃ V,e = .returned V∧Ws w' w.heap.size V (evL v)∧Below w.heap.size w w':=by
 have HM:Hid (∀ k,k<13→0≤(evL v).getD k 0∧(evL v).getD k 0<4294967296):=fun k hk=>hm _ (by
  have hl:k<(evL v).length:=hk;rw [show (evL v).getD k 0=(evL v)[k] by simp [List.getD,List.getElem?_eq_getElem hl]]
  exact List.getElem_mem _)
 have HIX:Hid (∀ k:Nat,k<13→∀ W,(Instr.index 249 (.agg #[zI v.kd,zI v.me,zI v.mo,zI v.id,zI v.te,zI v.de,zI v.fe,zI v.pr,zI v.ch,zI v.un,zI v.tg,zI v.ow,zI v.bp]) (zI (k:Int))).run Tryz.prog W = .ok (zI ((evL v).getD k 0)) W):=fun k hk W=>index13 v.kd v.me v.mo v.id v.te v.de v.fe v.pr v.ch v.un v.tg v.ow v.bp k hk W;have HL:Hid ((evL v).length=13):=rfl;clear hm;have HB1:Hid (Below w.heap.size w ((w.alloc (.cells #[zI v.kd,zI v.me,zI v.mo,zI v.id,zI v.te,zI v.de,zI v.fe,zI v.pr,zI v.ch,zI v.un,zI v.tg,zI v.ow,zI v.bp] 125)).alloc (.cells #[zI v.kd,zI v.me,zI v.mo,zI v.id,zI v.te,zI v.de,zI v.fe,zI v.pr,zI v.ch,zI v.un,zI v.tg,zI v.ow,zI v.bp] 249))):=((Below.refl _ _).alloc (Nat.le_refl _) _).alloc (by simp) _;go_enter Tryz.func105,Tryz.ntmps105;go_upto_region 2 with fail
 generalize hW1:((w.alloc (.cells #[zI v.kd,zI v.me,zI v.mo,zI v.id,zI v.te,zI v.de,zI v.fe,zI v.pr,zI v.ch,zI v.un,zI v.tg,zI v.ow,zI v.bp] 125)).alloc (.cells #[zI v.kd,zI v.me,zI v.mo,zI v.id,zI v.te,zI v.de,zI v.fe,zI v.pr,zI v.ch,zI v.un,zI v.tg,zI v.ow,zI v.bp] 249))=W1 at *;have HA:Hid (Blk W1 (w.heap.size+1) #[zI v.kd,zI v.me,zI v.mo,zI v.id,zI v.te,zI v.de,zI v.fe,zI v.pr,zI v.ch,zI v.un,zI v.tg,zI v.ow,zI v.bp] 249):=by show Blk _ _ _ _;rw [← hW1];exact Blk.new1 _ _ _ _
 clear hW1;have hmk:=make13 W1;have hsz:w.heap.size≤W1.heap.size:=HB1.o.size;have HL0:Hid (Ws (W1.alloc (.cells (madeCells (Value.int .u32 0).cells 13) 87)) w.heap.size (.slice (some ⟨W1.heap.size,0,none⟩) 0 13) []):=World.ownsRow_made W1 _ 13 hsz (by unfold maxLen;omega) (size_madeCells _ _);have HB0:Hid (Below w.heap.size w (W1.alloc (.cells (madeCells (Value.int .u32 0).cells 13) 87))):=HB1.o.alloc HB1.o.size _;have HA0:Hid (Blk (W1.alloc (.cells (madeCells (Value.int .u32 0).cells 13) 87)) (w.heap.size+1) #[zI v.kd,zI v.me,zI v.mo,zI v.id,zI v.te,zI v.de,zI v.fe,zI v.pr,zI v.ch,zI v.un,zI v.tg,zI v.ow,zI v.bp] 249):=HA.o.alloc _;generalize (W1.alloc (.cells (madeCells (Value.int .u32 0).cells 13) 87))=W0 at *;clear HA HB1;obtain ⟨b0,b1,b2,b3,b4,b5,b6,b7,b8,b9,b10,b11,b12⟩:=scl13 HA0;go_wp2_with fail;clear hmk hsz b0 b1 b2 b3 b4 b5 b6 b7 b8 b9 b10 b11 b12;go_loopw [4,45] (fun v4 v45 wr=>∃ (k:Nat) (V:Value),k≤13∧V=v4∧v45=zI (k:Int)∧Ws wr w.heap.size V ((evL v).take k)∧Below w.heap.size w wr) (fun _ v45 _=>13 - (intOf v45).toNat)
 case atStart=>exact ⟨0,_,Nat.zero_le _,rfl,rfl,HL0.o,HB0.o⟩
 case round=>
  obtain ⟨k,V,hk,hV,rfl,hlw,hbl⟩:=hrel;subst hV;have hs6:((evL v).take k).length≤1000000:=by rw [List.length_take];omega
  have HUA:Hid (∀ o,Ws (wr.alloc o) w.heap.size V ((evL v).take k)):=fun o=>hlw.alloc o;have HBA:Hid (∀ o,Below w.heap.size w (wr.alloc o)):=fun o=>hbl.alloc hbl.size o;have HSA:Hid (∀ o,w.heap.size≤(wr.alloc o).heap.size):=fun o=>(hbl.alloc hbl.size o).size;have HBL:Hid (Below w.heap.size w wr):=hbl;have HUL:Hid (Ws wr w.heap.size V ((evL v).take k)):=hlw;clear hlw hbl HL0 HB0 HA0;by_cases hkm:k<13
  ·have hix:=HIX.o k hkm;have HPN:Hid ((evL v).take k++[(evL v).getD k 0]=(evL v).take (k+1)):=take_next _ k hkm;have hz:=HM.o k hkm;clear HIX HM;generalize (evL v).getD k 0=z at *;have hwz:IntKind.u32.wrap z=z:=by rw [IntKind.wrap_u32];omega
   have hwz2:z % 4294967296=z:=by omega
   have hdl:decide ((k:Int)<13)=true:=decide_eq_true (by omega);clear hz;go_wp2_with (first | (refine wp_word rfl _ _ rfl w.heap.size wr.heap.size V ((evL v).take k) z rfl rfl (HUA.o _) ((Blk.new wr _ _).cell 0) hs6 (HSA.o _) ?_;intro v3 w3 h3 hg3;have hb3:=own_bel (HUA.o _) hg3 (HBA.o _) (Nat.le_refl _) (HSA.o _);have H3:Hid (Ws w3 w.heap.size v3 ((evL v).take k++[z])):=h3;have HB3:Hid (Below w.heap.size w w3):=hb3;clear h3 hg3 hb3) | fail)
   go_roundw
   case rel=>exact ⟨k+1,v3,by omega,rfl,by go_num,by rw [← HPN.o];exact H3.o,HB3.o⟩
   case measure=>simp [intOf];omega
  ·have hdl:decide ((k:Int)<13)=false:=decide_eq_false (by omega)
   have HFN:Hid (Ws wr w.heap.size V (evL v)):=by
    have:=HUL.o;rw [List.take_of_length_le (by rw [HL.o];omega)] at this;exact this
   go_wp2_with fail;go_ret;exact ⟨V,rfl,HFN.o,HBL.o⟩
end book
end Go.Proofs.YtdpfnedfakgolaaGreatDoor
