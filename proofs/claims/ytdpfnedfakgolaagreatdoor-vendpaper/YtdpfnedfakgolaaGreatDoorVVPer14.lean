import Derived.Test.YtdpfnedfakgolaaGreatDoorVVPer13
set_option linter.unusedVariables false
set_option linter.unusedSimpArgs false
set_option maxHeartbeats 4000000
set_option maxRecDepth 100000
namespace Go.Proofs.YtdpfnedfakgolaaGreatDoor
namespace cell
open Go.RowKit
theorem copy_run (a:Addr) (n cc g:Nat) (zs:List Int) (w:World) (hz:zs.length=n) (hr:Blk w g (arr (List.replicate n 0)) 87) (hc:∀ i,i<n→w.cell? (a.add i)=some (.int .u32 (zs.getD i 0))) :
  (Builtin.copy_ #[31,31] 3 #[.slice (some ⟨g,0,none⟩) n n,.slice (some a) n cc]).run Tryz.prog w = .ok (zI (n:Int)) (w.setRow g (arr zs)):=by
 have hrun:=run_copy_row (P:=Tryz.prog) w 31 31 3 87 g 0 n n a n cc (arr (List.replicate n 0)) 87 (zs.map (Value.int .u32)) Tryz.underlying31 (by kernel_rfl) hr (by
   rw [List.length_map,hz];exact (Nat.min_self n).symm) (by
   intro j u hu;by_cases hj:j<zs.length
   ·simp [List.getElem?_eq_getElem hj] at hu;subst hu;have:=hc j (by omega);simpa [List.getD,List.getElem?_eq_getElem hj] using this
   ·rw [List.getElem?_eq_none (by simp;omega)] at hu;cases hu) (by simp [arr,hz]) (by
   intro u hu;obtain ⟨z,_,rfl⟩:=List.mem_map.1 hu;rfl)
 rw [hrun]
 congr 2
 ·rw [List.length_map,hz]
 ·unfold arr;simp [hz]
theorem setRow_blk {w:World} {g:Nat} {c0 c1:Array Value} {t:TypeId} (h:Blk w g c0 t):Blk (w.setRow g c1) g c1 t:=setRow_heap w g _ _ t _ h
theorem written_any (a b:Option Addr) (n m c1 c2:Nat) (xs:List Int) (ls:List Wr) (w:World) (h1:RowU w a n xs) (h2:RowW w b m ls) (hn:1≤n) (hn2:n≤2048) (hm:m≤4096) (hall:allN n ls=true) :
  Calls Tryz.prog 41 #[.slice a n c1,.slice b m c2] w fun e w'=>∃ g,e = .returned (.slice (some ⟨g,0,none⟩) n n)∧RowU w' (some ⟨g,0,none⟩) n (wrt xs ls)∧Below w.heap.size w w':=by
 have hmk:∀ W:World,(Instr.makeSlice 31 (zI (n:Int)) (zI (n:Int))).run Tryz.prog W = .ok (.slice (some ⟨W.heap.size,0,none⟩) n n) (W.alloc (.cells (arr (List.replicate n 0)) 87)):=make_u32 n (by omega);obtain ⟨b1,o1,rfl,l1,hc1⟩:=h1.at (by omega);have hz:=h1.1
 have hcp:=copy_run ⟨b1,o1,none⟩ n c1 w.heap.size xs (w.alloc (.cells (arr (List.replicate n 0)) 87)) hz (Blk.new _ _ _) (fun i hi=>by
  rw [Addr.add_lit,World.cell?_alloc_lt w _ _ l1];exact hc1 i hi)
 have HG0:Hid (Blk ((w.alloc (.cells (arr (List.replicate n 0)) 87)).setRow w.heap.size (arr xs)) w.heap.size (arr xs) 87):=setRow_blk (Blk.new _ _ _);have HB0:Hid (Below w.heap.size w ((w.alloc (.cells (arr (List.replicate n 0)) 87)).setRow w.heap.size (arr xs))):=below_setRow ((Below.refl _ _).alloc (Nat.le_refl _) _) (Nat.le_refl _) _;have HR:Hid (RowW w b m ls):=h2;have HA:Hid (allN n ls=true):=hall;have HL:Hid (xs.length=n∧ls.length=m):=⟨hz,h2.1⟩
 clear h1 h2 hc1 hall hz l1;generalize arr (List.replicate n 0)=zz at *;go_enter Tryz.func41,Tryz.ntmps41;go_wp2_with fail;generalize (w.alloc (Obj.cells zz 87)).setRow w.heap.size (arr xs)=W0 at *;generalize hgg:w.heap.size=g at *;have HGG:Hid (w.heap.size=g):=hgg;clear hgg hcp hmk;go_loopw [16] (fun i wr=>∃ k:Nat,k≤m∧i=zI (k:Int)∧Blk wr g (arr (wrt xs (ls.take k))) 87∧Below g w wr) (fun i _=>m - (intOf i).toNat)
 case atStart=>exact ⟨0,Nat.zero_le _,rfl,HG0.o,HB0.o⟩
 case round=>
  obtain ⟨k,hk,rfl,hg,hb⟩:=hrel;have HK:Hid (Blk wr g (arr (wrt xs (ls.take k))) 87):=hg;have HB:Hid (Below g w wr):=hb;clear hg hb HG0 HB0;by_cases hlt:k<m
  ·obtain ⟨b2,o2,rfl,l2,hc2⟩:=HR.o.at (by omega);rw [HGG.o] at l2;have f1:wr.cell? ⟨b2,o2+k*2,none⟩=some (zI (ls.getD k wr0).p):=(HB.o.cell (p:=⟨b2,o2+k*2,none⟩) l2).trans (hc2 k hlt).1;have f2:wr.cell? ⟨b2,o2+k*2+1,none⟩=some (.int .u32 (ls.getD k wr0).d):=(HB.o.cell (p:=⟨b2,o2+k*2+1,none⟩) l2).trans (hc2 k hlt).2;have hin:=allN_at HA.o k (by have:=HL.o.2;omega);have HST:Hid (wrt xs (ls.take (k+1))=(wrt xs (ls.take k)).set (ls.getD k wr0).p.toNat (ls.getD k wr0).d):=wrt_step xs ls k (by have:=HL.o.2;omega);have HLZ:Hid ((wrt xs (ls.take k)).length=n):=by show _=_;rw [wrt_len];exact HL.o.1
   clear hc2 l2;generalize (ls.getD k wr0).p=pz at *;generalize (ls.getD k wr0).d=d at *;generalize wrt xs (ls.take k)=zs at *;obtain ⟨p,rfl⟩:∃ p:Nat,pz=p:=⟨pz.toNat,by omega⟩
   obtain ⟨_,hp⟩:=hin;have hp':p<n:=by omega
   clear hp;rw [Int.toNat_natCast] at HST;have hN:=Blk.new wr #[zI (p:Int),.int .u32 d] 118;have hK:=HK.o.alloc (.cells #[zI (p:Int),.int .u32 d] 118);have n0:=hN.cell 0;have n1:=hN.cell 1;have k0:=Blk.word hK p (by rw [HLZ.o];exact hp');have k1:=hK.free p
   have HNX:Hid (Blk ((wr.alloc (.cells #[zI (p:Int),.int .u32 d] 118)).setCell ⟨g,p,none⟩ (.int .u32 d)) g (arr (wrt xs (ls.take (k+1)))) 87):=by
    have h:=hK.set p (.int .u32 d);rw [arr_set] at h;rw [HST.o];exact h
   have HBX:Hid (Below g w ((wr.alloc (.cells #[zI (p:Int),.int .u32 d] 118)).setCell ⟨g,p,none⟩ (.int .u32 d))):=by
    have h0:g≤wr.heap.size:=by have:=HB.o.size;have h3:=HGG.o;omega
    exact bel_set (HB.o.alloc h0 _) g p _ (Nat.le_refl _)
   clear hN hK;go_wp2_with fail;go_roundw
   case rel=>exact ⟨k+1,by omega,by go_num,HNX.o,HBX.o⟩
   case measure=>simp [intOf];omega
  ·obtain rfl:k=m:=by omega
   have HX:Hid (RowU wr (some ⟨g,0,none⟩) n (wrt xs ls)):=Blk.rowU (by have:=HK.o;rw [List.take_of_length_le (by have:=HL.o.2;omega)] at this;exact this) (by rw [wrt_len];exact HL.o.1);go_wp2_with fail;go_ret;exact ⟨g,rfl,HX.o,by rw [HGG.o];exact HB.o⟩
end cell
namespace token
def hasI (lo hi n:Int):Bool:=decide (lo≤n) && decide (n≤hi)
def amLo (c:Int):Int:=if c=0 then 1 else if c=1 then 0 else if c=2 then 1 else 0
def amHi (c:Int):Int:=if c=0 then 2097151 else if c=1 then 0 else if c=2 then 15 else 0
def flawT (c i a t:Int):Int:=if c<0∨3<c then 9 else if hasI 1 1048575 i && (hasI (amLo c) (amHi c) a && hasI 0 65535 t) then 0 else 2
theorem flawT_class {c i a t:Int} (h:c<0∨3<c):flawT c i a t=9:=by unfold flawT;rw [if_pos h]
theorem flawT_in {c i a t:Int} (h:¬ (c<0∨3<c)):flawT c i a t=if hasI 1 1048575 i && (hasI (amLo c) (amHi c) a && hasI 0 65535 t) then 0 else 2:=by unfold flawT;rw [if_neg h]
theorem flaw_tok {k:Tok}:flawT k.c k.i k.a k.t=0↔k.ok:=by
 rw [← okB_ok];unfold flawT okB hasI amLo amHi;rcases (by omega:k.c=0∨k.c=1∨k.c=2∨k.c=3∨4≤k.c) with h | h | h | h | h
 ·simp [h];omega
 ·simp [h];omega
 ·simp [h];omega
 ·simp [h];omega
 ·have h1:(3:Int)<(k.c:Int):=by omega
  have h2:¬ k.c≤3:=by omega
  simp [h1,h2]
open Go.RowKit
theorem Eight.cell {w:World} {g:Nat} {a0 a1 a2 a3 a4 a5 a6 a7:Int} (h:Eight w g a0 a1 a2 a3 a4 a5 a6 a7) :
  w.cell? ⟨g,0,none⟩=some (zI a0)∧w.cell? ⟨g,1,none⟩=some (zI a1)∧w.cell? ⟨g,2,none⟩=some (zI a2)∧w.cell? ⟨g,3,none⟩=some (zI a3) ∧
  w.cell? ⟨g,4,none⟩=some (zI a4)∧w.cell? ⟨g,5,none⟩=some (zI a5)∧w.cell? ⟨g,6,none⟩=some (zI a6)∧w.cell? ⟨g,7,none⟩=some (zI a7):=by
 obtain ⟨t,fr,h⟩:=h;simp [World.cell?,h]
theorem has_any (lo hi n:Int) (w:World) :
  Calls Tryz.prog 58 #[.agg #[zI lo,zI hi],zI n] w fun e w'=>e = .returned (.bool (hasI lo hi n))∧Below w.heap.size w w':=by
 have hb:Below w.heap.size w (w.alloc (.cells #[zI lo,zI hi] 151)):=(Below.refl _ _).alloc (Nat.le_refl _) _;by_cases h:lo≤n
 ·have e:hasI lo hi n=decide (n≤hi):=by simp [hasI,h]
  rw [e];go_enter Tryz.func58,Tryz.ntmps58;go_wp2;go_ret;exact ⟨rfl,hb⟩
 ·have e:hasI lo hi n=false:=by simp [hasI,h]
  have h':n<lo:=by omega
  rw [e];go_enter Tryz.func58,Tryz.ntmps58;go_wp2;go_ret;exact ⟨rfl,hb⟩
structure Rdy (w W:World) (c i a t:Int):Prop where
 below:Below w.heap.size w W
 b0:W.cell? ⟨w.heap.size,0,none⟩=some (zI c)
 b1:W.cell? ⟨w.heap.size,1,none⟩=some (zI i)
 b2:W.cell? ⟨w.heap.size,2,none⟩=some (zI a)
 b3:W.cell? ⟨w.heap.size,3,none⟩=some (zI t)
 i0:W.cell? ⟨w.heap.size+1,0,none⟩=some (zI 1)
 i1:W.cell? ⟨w.heap.size+1,1,none⟩=some (zI 1048575)
 t0:W.cell? ⟨w.heap.size+1+1,0,none⟩=some (zI 0)
 t1:W.cell? ⟨w.heap.size+1+1,1,none⟩=some (zI 65535)
theorem rdy_of (w:World) (c i a t:Int):Rdy w (((w.alloc (.cells #[zI c,zI i,zI a,zI t] 54)).alloc (.cells #[zI 1,zI 1048575] 151)).alloc (.cells #[zI 0,zI 65535] 151)) c i a t:=by
 have h0:=((Blk.new w #[zI c,zI i,zI a,zI t] 54).alloc (.cells #[zI 1,zI 1048575] 151)).alloc (.cells #[zI 0,zI 65535] 151);have h1:=(Blk.new1 w (.cells #[zI c,zI i,zI a,zI t] 54) #[zI 1,zI 1048575] 151).alloc (.cells #[zI 0,zI 65535] 151);have h2:=Blk.new2 w (.cells #[zI c,zI i,zI a,zI t] 54) (.cells #[zI 1,zI 1048575] 151) #[zI 0,zI 65535] 151;exact ⟨((((Below.refl _ _).alloc (Nat.le_refl _) _).alloc (by simp) _).alloc (by simp;omega) _),h0.cell 0,h0.cell 1,h0.cell 2,h0.cell 3,h1.cell 0,h1.cell 1,h2.cell 0,h2.cell 1⟩
theorem flaw_class (c i a t:Int) (w:World) (h:c<0∨3<c) :
  Calls Tryz.prog 27 #[.agg #[zI c,zI i,zI a,zI t]] w fun e w'=>e = .returned (zI 9)∧Below w.heap.size w w':=by
 have hb:Below w.heap.size w (w.alloc (.cells #[zI c,zI i,zI a,zI t] 54)):=(Below.refl _ _).alloc (Nat.le_refl _) _;by_cases h0:c<0
 ·clear h;go_enter Tryz.func27,Tryz.ntmps27;go_wp2;go_ret;exact ⟨rfl,hb⟩
 ·have h1:0≤c:=by omega
  have h2:4≤c:=by omega
  clear h;go_enter Tryz.func27,Tryz.ntmps27;go_wp2;go_ret;exact ⟨rfl,hb⟩
theorem flaw_in (c:Nat) (lo hi i a t:Int) (w:World) (hc:c<4) (g0:w.cell? ⟨1,c*2,none⟩=some (zI lo)) (g1:w.cell? ⟨1,c*2+1,none⟩=some (zI hi)) :
  Calls Tryz.prog 27 #[.agg #[zI (c:Int),zI i,zI a,zI t]] w fun e w'=>e = .returned (zI (if hasI 1 1048575 i && (hasI lo hi a && hasI 0 65535 t) then 0 else 2))∧Below w.heap.size w w':=by
 have HR:Hid (Rdy w (((w.alloc (.cells #[zI (c:Int),zI i,zI a,zI t] 54)).alloc (.cells #[zI 1,zI 1048575] 151)).alloc (.cells #[zI 0,zI 65535] 151)) c i a t):=rdy_of w c i a t;have g0':=HR.o.below.cell (World.block_lt_of_cell? w _ g0);rw [g0] at g0';have g1':=HR.o.below.cell (World.block_lt_of_cell? w _ g1);rw [g1] at g1';have HI:Hid (∀ W,Calls Tryz.prog 58 #[.agg #[zI 1,zI 1048575],zI i] W fun e w'=>e = .returned (.bool (hasI 1 1048575 i))∧Below W.heap.size W w'):=fun W=>has_any _ _ _ W;have HA:Hid (∀ W,Calls Tryz.prog 58 #[.agg #[zI lo,zI hi],zI a] W fun e w'=>e = .returned (.bool (hasI lo hi a))∧Below W.heap.size W w'):=fun W=>has_any _ _ _ W;have HU:Hid (∀ W,Calls Tryz.prog 58 #[.agg #[zI 0,zI 65535],zI t] W fun e w'=>e = .returned (.bool (hasI 0 65535 t))∧Below W.heap.size W w'):=fun W=>has_any _ _ _ W;clear g0 g1;have c0:¬ (c:Int)<0:=by omega
 have c1:¬ 4≤(c:Int):=by omega
 have c2:(c:Int)<4:=by omega
 generalize hasI 1 1048575 i=bi at *;generalize hasI lo hi a=ba at *;generalize hasI 0 65535 t=bt at *;cases bi with
 | false=>
  go_enter Tryz.func27,Tryz.ntmps27;go_wp2_with fail;generalize (((w.alloc (.cells #[zI (c:Int),zI i,zI a,zI t] 54)).alloc (.cells #[zI 1,zI 1048575] 151)).alloc (.cells #[zI 0,zI 65535] 151))=W at *;have k0:=cell_regrown HR.o.b0;have k1:=cell_regrown HR.o.b1;have k2:=cell_regrown HR.o.b2;have k3:=cell_regrown HR.o.b3;have k4:=cell_regrown HR.o.i0;have k5:=cell_regrown HR.o.i1;have k6:=cell_regrown HR.o.t0;have k7:=cell_regrown HR.o.t1;have k8:=cell_regrown g0';have k9:=cell_regrown g1';have HB:Hid (Below w.heap.size w W):=HR.o.below;clear HR g0' g1';refine wq_below (by kernel_rfl) (by kernel_rfl) ?_
  iterate 3 (refine wq_step (fun K hK=>?_);go_simp;refine hK _ ?_;clear hK K)
  refine wq_step (fun K hK=>?_);go_simp;apply Exists.intro;refine ⟨fun _=>?_,hK _ ?_⟩;exact Calls.regrown_of (HI.o _);clear hK K
  iterate 2 (refine wq_step (fun K hK=>?_);go_simp;refine hK _ ?_;clear hK K)
  iterate 8 (refine wq_skip (by kernel_rfl) ?_;simp only [zq])
  iterate 2 (refine wq_step (fun K hK=>?_);go_simp;refine hK _ ?_;clear hK K)
  iterate 5 (refine wq_skip (by kernel_rfl) ?_;simp only [zq])
  iterate 1 (refine wq_step (fun K hK=>?_);go_simp;refine hK _ ?_;clear hK K)
  refine wq_nil ?_;intro _ hw';obtain ⟨⟨dq,osq⟩,hw''⟩:=hw';subst hw'';go_wp2_with fail;go_ret;exact ⟨rfl,HB.o.trans ((below_regrown W dq osq).mono HB.o.size)⟩
 | true=>
  cases ba with
  | false=>
   go_enter Tryz.func27,Tryz.ntmps27;go_wp2_with fail;generalize (((w.alloc (.cells #[zI (c:Int),zI i,zI a,zI t] 54)).alloc (.cells #[zI 1,zI 1048575] 151)).alloc (.cells #[zI 0,zI 65535] 151))=W at *;have k0:=cell_regrown HR.o.b0;have k1:=cell_regrown HR.o.b1;have k2:=cell_regrown HR.o.b2;have k3:=cell_regrown HR.o.b3;have k4:=cell_regrown HR.o.i0;have k5:=cell_regrown HR.o.i1;have k6:=cell_regrown HR.o.t0;have k7:=cell_regrown HR.o.t1;have k8:=cell_regrown g0';have k9:=cell_regrown g1';have HB:Hid (Below w.heap.size w W):=HR.o.below;clear HR g0' g1';refine wq_below (by kernel_rfl) (by kernel_rfl) ?_
   iterate 3 (refine wq_step (fun K hK=>?_);go_simp;refine hK _ ?_;clear hK K)
   refine wq_step (fun K hK=>?_);go_simp;apply Exists.intro;refine ⟨fun _=>?_,hK _ ?_⟩;exact Calls.regrown_of (HI.o _);clear hK K
   iterate 8 (refine wq_step (fun K hK=>?_);go_simp;refine hK _ ?_;clear hK K)
   refine wq_step (fun K hK=>?_);go_simp;apply Exists.intro;refine ⟨fun _=>?_,hK _ ?_⟩;exact Calls.regrown_of (HA.o _);clear hK K
   iterate 3 (refine wq_step (fun K hK=>?_);go_simp;refine hK _ ?_;clear hK K)
   iterate 5 (refine wq_skip (by kernel_rfl) ?_;simp only [zq])
   iterate 1 (refine wq_step (fun K hK=>?_);go_simp;refine hK _ ?_;clear hK K)
   refine wq_nil ?_;intro _ hw';obtain ⟨⟨dq,osq⟩,hw''⟩:=hw';subst hw'';go_wp2_with fail;go_ret;exact ⟨rfl,HB.o.trans ((below_regrown W dq osq).mono HB.o.size)⟩
  | true=>
   cases bt with
   | false=>
    go_enter Tryz.func27,Tryz.ntmps27;go_wp2_with fail;generalize (((w.alloc (.cells #[zI (c:Int),zI i,zI a,zI t] 54)).alloc (.cells #[zI 1,zI 1048575] 151)).alloc (.cells #[zI 0,zI 65535] 151))=W at *;have k0:=cell_regrown HR.o.b0;have k1:=cell_regrown HR.o.b1;have k2:=cell_regrown HR.o.b2;have k3:=cell_regrown HR.o.b3;have k4:=cell_regrown HR.o.i0;have k5:=cell_regrown HR.o.i1;have k6:=cell_regrown HR.o.t0;have k7:=cell_regrown HR.o.t1;have k8:=cell_regrown g0';have k9:=cell_regrown g1';have HB:Hid (Below w.heap.size w W):=HR.o.below;clear HR g0' g1';refine wq_below (by kernel_rfl) (by kernel_rfl) ?_
    iterate 3 (refine wq_step (fun K hK=>?_);go_simp;refine hK _ ?_;clear hK K)
    refine wq_step (fun K hK=>?_);go_simp;apply Exists.intro;refine ⟨fun _=>?_,hK _ ?_⟩;exact Calls.regrown_of (HI.o _);clear hK K
    iterate 8 (refine wq_step (fun K hK=>?_);go_simp;refine hK _ ?_;clear hK K)
    refine wq_step (fun K hK=>?_);go_simp;apply Exists.intro;refine ⟨fun _=>?_,hK _ ?_⟩;exact Calls.regrown_of (HA.o _);clear hK K
    iterate 6 (refine wq_step (fun K hK=>?_);go_simp;refine hK _ ?_;clear hK K)
    refine wq_step (fun K hK=>?_);go_simp;apply Exists.intro;refine ⟨fun _=>?_,hK _ ?_⟩;exact Calls.regrown_of (HU.o _);clear hK K
    iterate 2 (refine wq_step (fun K hK=>?_);go_simp;refine hK _ ?_;clear hK K)
    refine wq_nil ?_;intro _ hw';obtain ⟨⟨dq,osq⟩,hw''⟩:=hw';subst hw'';go_wp2_with fail;go_ret;exact ⟨rfl,HB.o.trans ((below_regrown W dq osq).mono HB.o.size)⟩
   | true=>
    go_enter Tryz.func27,Tryz.ntmps27;go_wp2_with fail;generalize (((w.alloc (.cells #[zI (c:Int),zI i,zI a,zI t] 54)).alloc (.cells #[zI 1,zI 1048575] 151)).alloc (.cells #[zI 0,zI 65535] 151))=W at *;have k0:=cell_regrown HR.o.b0;have k1:=cell_regrown HR.o.b1;have k2:=cell_regrown HR.o.b2;have k3:=cell_regrown HR.o.b3;have k4:=cell_regrown HR.o.i0;have k5:=cell_regrown HR.o.i1;have k6:=cell_regrown HR.o.t0;have k7:=cell_regrown HR.o.t1;have k8:=cell_regrown g0';have k9:=cell_regrown g1';have HB:Hid (Below w.heap.size w W):=HR.o.below;clear HR g0' g1';refine wq_below (by kernel_rfl) (by kernel_rfl) ?_
    iterate 3 (refine wq_step (fun K hK=>?_);go_simp;refine hK _ ?_;clear hK K)
    refine wq_step (fun K hK=>?_);go_simp;apply Exists.intro;refine ⟨fun _=>?_,hK _ ?_⟩;exact Calls.regrown_of (HI.o _);clear hK K
    iterate 8 (refine wq_step (fun K hK=>?_);go_simp;refine hK _ ?_;clear hK K)
    refine wq_step (fun K hK=>?_);go_simp;apply Exists.intro;refine ⟨fun _=>?_,hK _ ?_⟩;exact Calls.regrown_of (HA.o _);clear hK K
    iterate 6 (refine wq_step (fun K hK=>?_);go_simp;refine hK _ ?_;clear hK K)
    refine wq_step (fun K hK=>?_);go_simp;apply Exists.intro;refine ⟨fun _=>?_,hK _ ?_⟩;exact Calls.regrown_of (HU.o _);clear hK K
    iterate 2 (refine wq_step (fun K hK=>?_);go_simp;refine hK _ ?_;clear hK K)
    refine wq_nil ?_;intro _ hw';obtain ⟨⟨dq,osq⟩,hw''⟩:=hw';subst hw'';go_wp2_with fail;go_ret;exact ⟨rfl,HB.o.trans ((below_regrown W dq osq).mono HB.o.size)⟩
theorem flaw_any (c i a t:Int) (w:World) (ht:TTab w) :
  Calls Tryz.prog 27 #[.agg #[zI c,zI i,zI a,zI t]] w fun e w'=>e = .returned (zI (flawT c i a t))∧Below w.heap.size w w':=by
 by_cases h:c<0∨3<c
 ·rw [flawT_class h];exact flaw_class c i a t w h
 ·have h8:=ht.amounts.cell;rw [flawT_in h];rcases (by omega:c=0∨c=1∨c=2∨c=3) with rfl | rfl | rfl | rfl
  ·exact flaw_in 0 1 2097151 i a t w (by omega) h8.1 h8.2.1
  ·exact flaw_in 1 0 0 i a t w (by omega) h8.2.2.1 h8.2.2.2.1
  ·exact flaw_in 2 1 15 i a t w (by omega) h8.2.2.2.2.1 h8.2.2.2.2.2.1
  ·exact flaw_in 3 0 0 i a t w (by omega) h8.2.2.2.2.2.2.1 h8.2.2.2.2.2.2.2
end token
section
open Go.RowKit
theorem run_eqOp {P:Program} {o:Oper} {a:Act} {w:World} (ty rt:TypeId) (x y:Operand) (ho:o.op = .binOp .eql ty x y rt) (ca cb:Array Value) (hx:a.eval x = .agg ca) (hy:a.eval y = .agg cb) (hg:P.eqGuardType P.depth ty=false) (b:Bool)
  (hr:(Op.equalIn 10000 ty (.agg ca) (.agg cb)).run P w = .ok b w):(execOp a.eval o).run P w = .ok (.value (.bool b)) w:=by
 have hr':(Op.equal ty (.agg ca) (.agg cb)).run P w = .ok b w:=hr;unfold execOp;simp only [ho,hx,hy];have hp:∀ w':World,(program:Sem Program).run P w' = .ok P w':=fun _=>rfl;simp [eqGuard,hg,binOp,hr',hp,Sem.run_bind]
theorem wp_eqE {P:Program} {ops:Array Oper} {rest:List Oper} {o:Oper} {a:Act} {w:World} {Q:Exit→Act→World→Prop} (hw:Region.wanted o (yielded ops a.tmps)=true) (ty rt:TypeId) (x y:Operand) (ho:o.op = .binOp .eql ty x y rt) (ca cb:Array Value) (hx:a.eval x = .agg ca) (hy:a.eval y = .agg cb) (hg:P.eqGuardType P.depth ty=false) (b:Bool)
  (hr:(Op.equalIn 10000 ty (.agg ca) (.agg cb)).run P w = .ok b w) (d:Nat) (hd:o.dst=some d) (h:wpList P ops Q rest (a.put (some d) (.bool b)) w):wpList P ops Q (o :: rest) a w:=
 wpList_step fun K hK=>by
  rw [if_pos hw];exact wp_runOp d hd (run_eqOp ty rt x y ho ca cb hx hy hg b hr) (hK _ _ h)
end
namespace book
open Go.RowKit
open acc (Ac Tm Bi APost BPost OweIs SellIs GrantIs RekeyIs)
theorem lo_upd {w W:World} {base g:Nat} {cs:Array Value} {t:TypeId} {v:Value} {l:List So} (h:Lo w base v l) (hU:Upd w W g cs t) (hg:∀ k,v.ownBlock=some k→k≠g):Lo W base v l:=by
 refine ⟨h.1,?_⟩;rcases h.2 with hn | ⟨g',cap,cur,hv,hb,hc,rest⟩
 ·exact .inl hn
 ·exact .inr ⟨g',cap,cur,hv,hb,by rw [hU.oth g' (hg g' (by rw [hv];rfl))];exact hc,rest⟩
end book
namespace disk
open Go.RowKit cell
def RepNew (w:World) (c:List Int) (e:Ending) (w':World):Prop:=
 ∃ a n cap out x f,e = .returned (.tuple #[.slice a n cap,zI x,zI f])∧ReadsF w' w.heap.size a n out∧n≤100000∧RepIs c out x f∧Below w.heap.size w w'
def AppGot (w:World) (c r:List Int) (e:Ending) (w':World):Prop:=
 ∃ a n cap ls f,e = .returned (.tuple #[.slice a n cap,zI f])∧RowW w' a n ls∧(∀ x,a=some x→w.heap.size≤x.block)∧n≤cap∧n≤100000∧AppIs c r ls f∧Below w.heap.size w w'
end disk
end Go.Proofs.YtdpfnedfakgolaaGreatDoor
