import Derived.Test.YtdpfnedfakgolaaGreatDoorVVRnt10
import Derived.Test.YtdpfnedfakgolaaGreatDoorVVRnt12
set_option linter.unusedVariables false
set_option linter.unusedSimpArgs false
set_option maxHeartbeats 4000000
set_option maxRecDepth 100000
namespace Go.Proofs.YtdpfnedfakgolaaGreatDoor
namespace cell
open Go.RowKit
theorem copy_run (a:Addr) (n cc g:Nat) (zs:List Int) (w:World) (hz:zs.length=n) (hr:Blk w g (arr (List.replicate n 0)) 87) (hc:∀ i,i<n→w.cell? (a.add i)=some (.int .u32 (zs.getD i 0))) :
  (Builtin.copy_ #[31,31] 3 #[.slice (some ⟨g,0,none⟩) n n,.slice (some a) n cc]).run Tryz.prog w = .ok (zI (n:Int)) (w.setRow g (arr zs)):=by
 have hrun:=run_copy_row (P:=Tryz.prog) w 31 31 3 87 g 0 n n a n cc (arr (List.replicate n 0)) 87 (zs.map (Value.int .u32)) Tryz.underlying31 (by kernel_rfl) hr (by
   rw [List.length_map,hz];exact (Nat.min_self n).symm) (by
   intro j u hu;by_cases hj:j<zs.length
   ·simp [List.getElem?_eq_getElem hj] at hu;subst hu;have:=hc j (by omega);simpa [List.getD,List.getElem?_eq_getElem hj] using this
   ·rw [List.getElem?_eq_none (by simp;omega)] at hu;cases hu) (by simp [arr,hz]) (by
   intro u hu;obtain ⟨z,_,rfl⟩:=List.mem_map.1 hu;rfl)
 rw [hrun]
 congr 2
 ·rw [List.length_map,hz]
 ·unfold arr;simp [hz]
theorem setRow_blk {w:World} {g:Nat} {c0 c1:Array Value} {t:TypeId} (h:Blk w g c0 t):Blk (w.setRow g c1) g c1 t:=setRow_heap w g _ _ t _ h
theorem written_any (a b:Option Addr) (n m c1 c2:Nat) (xs:List Int) (ls:List Wr) (w:World) (h1:RowU w a n xs) (h2:RowW w b m ls) (hn:1≤n) (hn2:n≤2048) (hm:m≤4096) (hall:allN n ls=true) :
  Calls Tryz.prog 41 #[.slice a n c1,.slice b m c2] w fun e w'=>∃ g,e = .returned (.slice (some ⟨g,0,none⟩) n n)∧RowU w' (some ⟨g,0,none⟩) n (wrt xs ls)∧Below w.heap.size w w':=by
 have hmk:∀ W:World,(Instr.makeSlice 31 (zI (n:Int)) (zI (n:Int))).run Tryz.prog W = .ok (.slice (some ⟨W.heap.size,0,none⟩) n n) (W.alloc (.cells (arr (List.replicate n 0)) 87)):=make_u32 n (by omega);obtain ⟨b1,o1,rfl,l1,hc1⟩:=h1.at (by omega);have hz:=h1.1
 have hcp:=copy_run ⟨b1,o1,none⟩ n c1 w.heap.size xs (w.alloc (.cells (arr (List.replicate n 0)) 87)) hz (Blk.new _ _ _) (fun i hi=>by
  rw [Addr.add_lit,World.cell?_alloc_lt w _ _ l1];exact hc1 i hi)
 have HG0:Hid (Blk ((w.alloc (.cells (arr (List.replicate n 0)) 87)).setRow w.heap.size (arr xs)) w.heap.size (arr xs) 87):=setRow_blk (Blk.new _ _ _);have HB0:Hid (Below w.heap.size w ((w.alloc (.cells (arr (List.replicate n 0)) 87)).setRow w.heap.size (arr xs))):=below_setRow ((Below.refl _ _).alloc (Nat.le_refl _) _) (Nat.le_refl _) _;have HR:Hid (RowW w b m ls):=h2;have HA:Hid (allN n ls=true):=hall;have HL:Hid (xs.length=n∧ls.length=m):=⟨hz,h2.1⟩
 clear h1 h2 hc1 hall hz l1;generalize arr (List.replicate n 0)=zz at *;go_enter Tryz.func41,Tryz.ntmps41;go_wp2_with fail;generalize (w.alloc (Obj.cells zz 87)).setRow w.heap.size (arr xs)=W0 at *;generalize hgg:w.heap.size=g at *;have HGG:Hid (w.heap.size=g):=hgg;clear hgg hcp hmk;go_loopw [16] (fun i wr=>∃ k:Nat,k≤m∧i=zI (k:Int)∧Blk wr g (arr (wrt xs (ls.take k))) 87∧Below g w wr) (fun i _=>m - (intOf i).toNat)
 case atStart=>exact ⟨0,Nat.zero_le _,rfl,HG0.o,HB0.o⟩
 case round=>
  obtain ⟨k,hk,rfl,hg,hb⟩:=hrel;have HK:Hid (Blk wr g (arr (wrt xs (ls.take k))) 87):=hg;have HB:Hid (Below g w wr):=hb;clear hg hb HG0 HB0;by_cases hlt:k<m
  ·obtain ⟨b2,o2,rfl,l2,hc2⟩:=HR.o.at (by omega);rw [HGG.o] at l2;have f1:wr.cell? ⟨b2,o2+k*2,none⟩=some (zI (ls.getD k wr0).p):=(HB.o.cell (p:=⟨b2,o2+k*2,none⟩) l2).trans (hc2 k hlt).1;have f2:wr.cell? ⟨b2,o2+k*2+1,none⟩=some (.int .u32 (ls.getD k wr0).d):=(HB.o.cell (p:=⟨b2,o2+k*2+1,none⟩) l2).trans (hc2 k hlt).2;have hin:=allN_at HA.o k (by have:=HL.o.2;omega);have HST:Hid (wrt xs (ls.take (k+1))=(wrt xs (ls.take k)).set (ls.getD k wr0).p.toNat (ls.getD k wr0).d):=wrt_step xs ls k (by have:=HL.o.2;omega);have HLZ:Hid ((wrt xs (ls.take k)).length=n):=by show _=_;rw [wrt_len];exact HL.o.1
   clear hc2 l2;generalize (ls.getD k wr0).p=pz at *;generalize (ls.getD k wr0).d=d at *;generalize wrt xs (ls.take k)=zs at *;obtain ⟨p,rfl⟩:∃ p:Nat,pz=p:=⟨pz.toNat,by omega⟩
   obtain ⟨_,hp⟩:=hin;have hp':p<n:=by omega
   clear hp;rw [Int.toNat_natCast] at HST;have hN:=Blk.new wr #[zI (p:Int),.int .u32 d] 118;have hK:=HK.o.alloc (.cells #[zI (p:Int),.int .u32 d] 118);have n0:=hN.cell 0;have n1:=hN.cell 1;have k0:=Blk.word hK p (by rw [HLZ.o];exact hp');have k1:=hK.free p
   have HNX:Hid (Blk ((wr.alloc (.cells #[zI (p:Int),.int .u32 d] 118)).setCell ⟨g,p,none⟩ (.int .u32 d)) g (arr (wrt xs (ls.take (k+1)))) 87):=by
    have h:=hK.set p (.int .u32 d);rw [arr_set] at h;rw [HST.o];exact h
   have HBX:Hid (Below g w ((wr.alloc (.cells #[zI (p:Int),.int .u32 d] 118)).setCell ⟨g,p,none⟩ (.int .u32 d))):=by
    have h0:g≤wr.heap.size:=by have:=HB.o.size;have h3:=HGG.o;omega
    exact bel_set (HB.o.alloc h0 _) g p _ (Nat.le_refl _)
   clear hN hK;go_wp2_with fail;go_roundw
   case rel=>exact ⟨k+1,by omega,by go_num,HNX.o,HBX.o⟩
   case measure=>simp [intOf];omega
  ·obtain rfl:k=m:=by omega
   have HX:Hid (RowU wr (some ⟨g,0,none⟩) n (wrt xs ls)):=Blk.rowU (by have:=HK.o;rw [List.take_of_length_le (by have:=HL.o.2;omega)] at this;exact this) (by rw [wrt_len];exact HL.o.1);go_wp2_with fail;go_ret;exact ⟨g,rfl,HX.o,by rw [HGG.o];exact HB.o⟩
def fv (B:Nat):Value:= .func (.func 39) #[] #[.pointer (some ⟨B,0,none⟩)]
theorem astray_any (B n cc:Nat) (ca:Option Addr) (e0:Wr) (W:World) (hc:W.cell? ⟨B,0,none⟩=some (.slice ca n cc)) (hB:B<W.heap.size) (hn:n≤2048) :
  Calls Tryz.prog 39 #[.agg #[zI e0.p,.int .u32 e0.d],.pointer (some ⟨B,0,none⟩)] W fun e w'=>e = .returned (.bool (!inN n e0))∧Below W.heap.size W w':=by
 obtain ⟨p,d⟩:=e0;have hc2:(W.alloc (.cells #[zI p,.int .u32 d] 118)).cell? ⟨B,0,none⟩=some (.slice ca n cc):=by rw [World.cell?_alloc_lt W _ _ hB];exact hc
 have HB:Hid (Below W.heap.size W (W.alloc (.cells #[zI p,.int .u32 d] 118))):=(Below.refl _ _).alloc (Nat.le_refl _) _;clear hc hB;by_cases h0:p<0
 ·have e1:(!inN n ⟨p,d⟩)=true:=by simp [inN];omega
  rw [e1];clear e1;go_enter Tryz.func39,Tryz.ntmps39;go_wp2_with fail;go_ret;exact ⟨rfl,HB.o⟩
 ·by_cases h1:p<n
  ·have e1:(!inN n ⟨p,d⟩)=false:=by simp [inN];omega
   have h2:decide ((n:Int)≤p)=false:=by simp;omega
   rw [e1];clear e1;go_enter Tryz.func39,Tryz.ntmps39;go_wp2_with fail;go_ret;exact ⟨rfl,HB.o⟩
  ·have e1:(!inN n ⟨p,d⟩)=true:=by simp [inN];omega
   have h2:decide ((n:Int)≤p)=true:=by simp;omega
   rw [e1];clear e1;go_enter Tryz.func39,Tryz.ntmps39;go_wp2_with fail;go_ret;exact ⟨rfl,HB.o⟩
def IxPost (w:World) (n:Nat) (ls:List Wr) (e:Ending) (w':World):Prop:=
 ∃ r:Int,e = .returned (zI r)∧(allN n ls=true∧r=-1∨allN n ls=false∧0≤r)∧Below w.heap.size w w'
theorem index_any (B n cc m c2:Nat) (ca b:Option Addr) (ls:List Wr) (w:World) (hc:w.cell? ⟨B,0,none⟩=some (.slice ca n cc)) (hn:n≤2048) (hr:RowW w b m ls) (hm:m≤4096) :
  Calls Tryz.prog 69 #[.slice b m c2,fv B] w fun e w'=>IxPost w n ls e w':=by
 have hB:=World.block_lt_of_cell? w _ hc
 have HC:Hid (∀ wr,Below w.heap.size w wr→∀ e0:Wr,Calls Tryz.prog 39 #[.agg #[zI e0.p,.int .u32 e0.d],.pointer (some ⟨B,0,none⟩)] wr fun e w'=>e = .returned (.bool (!inN n e0))∧Below wr.heap.size wr w'):=fun wr hb e0=>
  astray_any B n cc ca e0 wr ((hb.cell (p:=⟨B,0,none⟩) hB).trans hc) (Nat.lt_of_lt_of_le hB hb.size) hn
 have HR:Hid (RowW w b m ls):=hr;have HL:Hid (ls.length=m):=hr.1;clear hc hB hr;unfold fv;go_enter Tryz.func69,Tryz.ntmps69;go_wp2_with fail;go_loopw [8] (fun i wr=>∃ k:Nat,k≤m∧i=zI (k:Int)∧allN n (ls.take k)=true∧Below w.heap.size w wr) (fun i _=>m - (intOf i).toNat)
 case atStart=>exact ⟨0,Nat.zero_le _,rfl,rfl,Below.refl _ _⟩
 case round=>
  obtain ⟨k,hk,rfl,hal,hb⟩:=hrel;have HA:Hid (allN n (ls.take k)=true):=hal;have HB:Hid (Below w.heap.size w wr):=hb;clear hal hb;by_cases hlt:k<m
  ·obtain ⟨b2,o2,rfl,l2,hc2⟩:=HR.o.at (by omega);have f1:wr.cell? ⟨b2,o2+k*2,none⟩=some (zI (ls.getD k wr0).p):=(HB.o.cell (p:=⟨b2,o2+k*2,none⟩) l2).trans (hc2 k hlt).1;have f2:wr.cell? ⟨b2,o2+k*2+1,none⟩=some (.int .u32 (ls.getD k wr0).d):=(HB.o.cell (p:=⟨b2,o2+k*2+1,none⟩) l2).trans (hc2 k hlt).2;have hcall:=HC.o wr HB.o (ls.getD k wr0);have HST:Hid (allN n (ls.take (k+1))=(allN n (ls.take k) && inN n (ls.getD k wr0))):=allN_step n ls k (by have:=HL.o;omega);have HFL:Hid (inN n (ls.getD k wr0)=false→allN n ls=false):=fun h=>allN_of_false (by have:=HL.o;omega) h;clear hc2 l2;cases hi:inN n (ls.getD k wr0) with
   | true=>
    rw [hi] at hcall HST;have HSA:Hid (allN n (ls.take (k+1))=true):=by show _=_;rw [HST.o,HA.o];rfl
    have HCL:Hid (Calls Tryz.prog 39 #[.agg #[zI (ls.getD k wr0).p,.int .u32 (ls.getD k wr0).d],.pointer (some ⟨B,0,none⟩)] wr fun e w'=>e = .returned (.bool false)∧Below wr.heap.size wr w'):=hcall;clear hcall HST HFL hi;generalize (ls.getD k wr0).p=p at *;generalize (ls.getD k wr0).d=d at *;go_wp2_with fail;refine HCL.o.mono ?_;rintro e w' ⟨rfl,hb'⟩;have HB':Hid (Below w.heap.size w w'):=bel_step HB.o hb';clear hb' f1 f2;go_wp2_with fail;go_roundw
    case rel=>exact ⟨k+1,by omega,by go_num,HSA.o,HB'.o⟩
    case measure=>simp [intOf];omega
   | false=>
    rw [hi] at hcall;have HFA:Hid (allN n ls=false):=HFL.o hi;have HCL:Hid (Calls Tryz.prog 39 #[.agg #[zI (ls.getD k wr0).p,.int .u32 (ls.getD k wr0).d],.pointer (some ⟨B,0,none⟩)] wr fun e w'=>e = .returned (.bool true)∧Below wr.heap.size wr w'):=hcall;clear hcall HST HFL hi;generalize (ls.getD k wr0).p=p at *;generalize (ls.getD k wr0).d=d at *;go_wp2_with fail;refine HCL.o.mono ?_;rintro e w' ⟨rfl,hb'⟩;have HB':Hid (Below w.heap.size w w'):=bel_step HB.o hb';clear hb' f1 f2;go_wp2_with fail;go_ret;exact ⟨(k:Int),rfl,.inr ⟨HFA.o,by omega⟩,HB'.o⟩
  ·obtain rfl:k=m:=by omega
   have HFA:Hid (allN n ls=true):=by have:=HA.o;rw [List.take_of_length_le (by have:=HL.o;omega)] at this;exact this
   go_wp2_with fail;go_ret;exact ⟨-1,rfl,.inl ⟨HFA.o,rfl⟩,HB.o⟩
theorem contains_any (B n cc m c2:Nat) (ca b:Option Addr) (ls:List Wr) (w:World) (hc:w.cell? ⟨B,0,none⟩=some (.slice ca n cc)) (hn:n≤2048) (hr:RowW w b m ls) (hm:m≤4096) :
  Calls Tryz.prog 40 #[.slice b m c2,fv B] w fun e w'=>e = .returned (.bool (!allN n ls))∧Below w.heap.size w w':=by
 have HI:Hid (Calls Tryz.prog 69 #[.slice b m c2,fv B] w fun e w'=>IxPost w n ls e w'):=index_any B n cc m c2 ca b ls w hc hn hr hm;clear hc hr;generalize fv B=V at *;go_enter Tryz.func40,Tryz.ntmps40;go_wp2_with fail;refine HI.o.mono ?_;rintro e w' ⟨r,rfl,hr,hb'⟩;have HB':Hid (Below w.heap.size w w'):=hb';clear hb';rcases hr with ⟨ha,rfl⟩ | ⟨ha,hr⟩
 ·have HA:Hid ((!allN n ls)=false):=by show _=_;rw [ha];rfl
  clear ha;go_wp2_with fail;go_ret;exact ⟨by rw [HA.o];rfl,HB'.o⟩
 ·have HA:Hid ((!allN n ls)=true):=by show _=_;rw [ha];rfl
  clear ha;have hd:decide ((0:Int)≤r)=true:=by simpa using hr
  go_wp2_with fail;go_ret;exact ⟨by rw [HA.o];rfl,HB'.o⟩
end cell
namespace ora
open Go.RowKit
def GaveV (w:World) (l:List Pr) (e:Ending) (w':World):Prop:=∃ v,e = .returned v∧Pw w' w.heap.size v l∧Below w.heap.size w w'
theorem pclone_some (x:Addr) (len cap:Nat) (l:List Pr) (w:World) (hr:RowP w (some x) len l) (hl:len≤1000) :
  Calls Tryz.prog 141 #[.slice (some x) len cap] w fun e w'=>GaveV w l e w':=by
 obtain ⟨i0,hi,hz0,hz1,hz2⟩:=info_parts info_pr;obtain ⟨hz,hr⟩:=hr;have HO:Hid ((w.alloc (.cells #[] 158)).ownsRow w.heap.size 158 4 (.slice (some ⟨w.heap.size,0,none⟩) 0 0) 0 []):=World.ownsRow_lit w #[] 0 (Nat.le_refl _) (by unfold maxLen;omega) rfl;have HSZ:Hid (w.heap.size≤(w.alloc (.cells #[] 158)).heap.size):=palloc_le (Nat.le_refl _) _;have heq:∀ W:World,(binOp BinOp.eql 32 (.slice (some x) len cap) (zS)).run Tryz.prog W = .ok (.bool false) W:=fun W=>by kernel_rfl
 go_enter Tryz.func141,Tryz.ntmps141
 go_wp2_with (first
  | (at_builtin;refine wpList_append_own _ rfl _ _ 32 rfl w.heap.size 158 i0 (.agg #[zI 0,zI 0,zI 0,zI 0]) 4 32 Tryz.underlying32 hi hz0 hz1 hz2 rfl (by decide) _ _ _ rfl HO.o x len cap (cellsP l) rfl ?c0 ?c1 ?c2 ?c3 ?c4 HSZ.o ?_)
  | go_in)
 case c0=>rw [cellsP_len,hz]
 case c1=>
  intro j u hu;rcases hr with h | ⟨b,off,h,hc⟩
  ·have:l=[]:=List.length_eq_zero_iff.1 (by omega);subst this;simp [cellsP] at hu
  ·obtain rfl:=Option.some.inj h;have:=cellsP_get hz hc j u hu;rw [Addr.add_lit,World.cell?_alloc_lt w _ _ (World.block_lt_of_cell? w _ this)];exact this
 case c2=>exact oneP l
 case c3=>unfold maxLen;omega
 case c4=>omega
 intro v' w' hown hg _;have HW:Hid (Pw w' w.heap.size v' l):=by show w'.ownsRow _ _ _ _ _ _;rw [hz];simpa using hown
 have HG:Hid (Below w.heap.size w w'):=pown_bel HO.o hg ((Below.refl _ _).alloc (Nat.le_refl _) _) (Nat.le_refl _) HSZ.o;clear hown hg;go_wp2;go_ret;exact ⟨v',rfl,HW.o,HG.o⟩
theorem pclone_none (cap:Nat) (w:World) :
  Calls Tryz.prog 141 #[.slice none 0 cap] w fun e w'=>GaveV w [] e w':=by
 have heq:∀ W:World,(binOp BinOp.eql 32 (.slice none 0 cap) (zS)).run Tryz.prog W = .ok (.bool true) W:=fun W=>by kernel_rfl
 go_enter Tryz.func141,Tryz.ntmps141;go_wp2_with fail;go_ret;exact ⟨_,rfl,Pw.zero _ _,Below.refl _ _⟩
theorem pclone_any (a:Option Addr) (len cap:Nat) (l:List Pr) (w:World) (hr:RowP w a len l) (hl:len≤1000) :
  Calls Tryz.prog 141 #[.slice a len cap] w fun e w'=>GaveV w l e w':=by
 cases a with
 | some x=>exact pclone_some x len cap l w hr hl
 | none=>
  have h0:len=0:=by
   rcases hr.2 with h | ⟨_,_,h,_⟩
   ·exact h
   ·cases h
  subst h0;have:l=[]:=List.length_eq_zero_iff.1 hr.1;subst this;exact pclone_none cap w
end ora
namespace book
open Go.RowKit
theorem eqBi_f0 (a0 a1 a2 a3 a4 a5 a6:Int) (w:World):(part 3 #[zI a0,zI a1,zI a2,zI a3,zI a4,zI a5,zI a6] 0).run Tryz.prog w = .ok (zI a0) w:=by kernel_rfl
theorem eqBi_f1 (a0 a1 a2 a3 a4 a5 a6:Int) (w:World):(part 3 #[zI a0,zI a1,zI a2,zI a3,zI a4,zI a5,zI a6] 1).run Tryz.prog w = .ok (zI a1) w:=by kernel_rfl
theorem eqBi_f2 (a0 a1 a2 a3 a4 a5 a6:Int) (w:World):(part 3 #[zI a0,zI a1,zI a2,zI a3,zI a4,zI a5,zI a6] 2).run Tryz.prog w = .ok (zI a2) w:=by kernel_rfl
theorem eqBi_f3 (a0 a1 a2 a3 a4 a5 a6:Int) (w:World):(part 3 #[zI a0,zI a1,zI a2,zI a3,zI a4,zI a5,zI a6] 3).run Tryz.prog w = .ok (zI a3) w:=by kernel_rfl
theorem eqBi_f4 (a0 a1 a2 a3 a4 a5 a6:Int) (w:World):(part 3 #[zI a0,zI a1,zI a2,zI a3,zI a4,zI a5,zI a6] 4).run Tryz.prog w = .ok (zI a4) w:=by kernel_rfl
theorem eqBi_f5 (a0 a1 a2 a3 a4 a5 a6:Int) (w:World):(part 3 #[zI a0,zI a1,zI a2,zI a3,zI a4,zI a5,zI a6] 5).run Tryz.prog w = .ok (zI a5) w:=by kernel_rfl
theorem eqBi_f6 (a0 a1 a2 a3 a4 a5 a6:Int) (w:World):(part 3 #[zI a0,zI a1,zI a2,zI a3,zI a4,zI a5,zI a6] 6).run Tryz.prog w = .ok (zI a6) w:=by kernel_rfl
theorem eqBi (d:Nat) (a0 a1 a2 a3 a4 a5 a6 b0 b1 b2 b3 b4 b5 b6:Int) (w:World):(Op.equalIn (d+2) 48 (.agg #[zI a0,zI a1,zI a2,zI a3,zI a4,zI a5,zI a6]) (.agg #[zI b0,zI b1,zI b2,zI b3,zI b4,zI b5,zI b6])).run Tryz.prog w = .ok (decide (a0=b0∧a1=b1∧a2=b2∧a3=b3∧a4=b4∧a5=b5∧a6=b6)) w:=by
 rw [run_equalIn_agg w (d+1) 48 _ _ (by kernel_rfl) (by kernel_rfl)];simp only [Program.fieldsOf,Tryz.underlying48,Op.eqFields,Sem.run_bind,Sem.run_ite,eqBi_f0,eqBi_f1,eqBi_f2,eqBi_f3,eqBi_f4,eqBi_f5,eqBi_f6,Result.andThen_ok,eqI];by_cases h0:a0=b0
 case neg=>simp [h0]
 subst h0;by_cases h1:a1=b1
 case neg=>simp [h1]
 subst h1;by_cases h2:a2=b2
 case neg=>simp [h2]
 subst h2;by_cases h3:a3=b3
 case neg=>simp [h3]
 subst h3;by_cases h4:a4=b4
 case neg=>simp [h4]
 subst h4;by_cases h5:a5=b5
 case neg=>simp [h5]
 subst h5;by_cases h6:a6=b6
 case neg=>simp [h6]
 subst h6;simp
theorem eqDe_f0 (a0 a1:Int) (w:World):(part 3 #[zI a0,zI a1] 0).run Tryz.prog w = .ok (zI a0) w:=by kernel_rfl
theorem eqDe_f1 (a0 a1:Int) (w:World):(part 3 #[zI a0,zI a1] 1).run Tryz.prog w = .ok (zI a1) w:=by kernel_rfl
theorem eqDe (d:Nat) (a0 a1 b0 b1:Int) (w:World):(Op.equalIn (d+2) 83 (.agg #[zI a0,zI a1]) (.agg #[zI b0,zI b1])).run Tryz.prog w = .ok (decide (a0=b0∧a1=b1)) w:=by
 rw [run_equalIn_agg w (d+1) 83 _ _ (by kernel_rfl) (by kernel_rfl)];simp only [Program.fieldsOf,Tryz.underlying83,Op.eqFields,Sem.run_bind,Sem.run_ite,eqDe_f0,eqDe_f1,Result.andThen_ok,eqI];by_cases h0:a0=b0
 case neg=>simp [h0]
 subst h0;by_cases h1:a1=b1
 case neg=>simp [h1]
 subst h1;simp
theorem eqEv_f0 (a0 a1 a2 a3 a4 a5 a6 a7 a8 a9 a10 a11 a12:Int) (w:World):(part 3 #[zI a0,zI a1,zI a2,zI a3,zI a4,zI a5,zI a6,zI a7,zI a8,zI a9,zI a10,zI a11,zI a12] 0).run Tryz.prog w = .ok (zI a0) w:=by kernel_rfl
theorem eqEv_f1 (a0 a1 a2 a3 a4 a5 a6 a7 a8 a9 a10 a11 a12:Int) (w:World):(part 3 #[zI a0,zI a1,zI a2,zI a3,zI a4,zI a5,zI a6,zI a7,zI a8,zI a9,zI a10,zI a11,zI a12] 1).run Tryz.prog w = .ok (zI a1) w:=by kernel_rfl
theorem eqEv_f2 (a0 a1 a2 a3 a4 a5 a6 a7 a8 a9 a10 a11 a12:Int) (w:World):(part 3 #[zI a0,zI a1,zI a2,zI a3,zI a4,zI a5,zI a6,zI a7,zI a8,zI a9,zI a10,zI a11,zI a12] 2).run Tryz.prog w = .ok (zI a2) w:=by kernel_rfl
theorem eqEv_f3 (a0 a1 a2 a3 a4 a5 a6 a7 a8 a9 a10 a11 a12:Int) (w:World):(part 48 #[zI a0,zI a1,zI a2,zI a3,zI a4,zI a5,zI a6,zI a7,zI a8,zI a9,zI a10,zI a11,zI a12] 3).run Tryz.prog w = .ok (.agg #[zI a3,zI a4,zI a5,zI a6,zI a7,zI a8,zI a9]) w:=by kernel_rfl
theorem eqEv_f10 (a0 a1 a2 a3 a4 a5 a6 a7 a8 a9 a10 a11 a12:Int) (w:World):(part 3 #[zI a0,zI a1,zI a2,zI a3,zI a4,zI a5,zI a6,zI a7,zI a8,zI a9,zI a10,zI a11,zI a12] 10).run Tryz.prog w = .ok (zI a10) w:=by kernel_rfl
theorem eqEv_f11 (a0 a1 a2 a3 a4 a5 a6 a7 a8 a9 a10 a11 a12:Int) (w:World):(part 83 #[zI a0,zI a1,zI a2,zI a3,zI a4,zI a5,zI a6,zI a7,zI a8,zI a9,zI a10,zI a11,zI a12] 11).run Tryz.prog w = .ok (.agg #[zI a11,zI a12]) w:=by kernel_rfl
theorem eqEv (d:Nat) (a0 a1 a2 a3 a4 a5 a6 a7 a8 a9 a10 a11 a12 b0 b1 b2 b3 b4 b5 b6 b7 b8 b9 b10 b11 b12:Int) (w:World):(Op.equalIn (d+3) 125 (.agg #[zI a0,zI a1,zI a2,zI a3,zI a4,zI a5,zI a6,zI a7,zI a8,zI a9,zI a10,zI a11,zI a12]) (.agg #[zI b0,zI b1,zI b2,zI b3,zI b4,zI b5,zI b6,zI b7,zI b8,zI b9,zI b10,zI b11,zI b12])).run Tryz.prog w = .ok (decide (a0=b0∧a1=b1∧a2=b2∧a3=b3∧a4=b4∧a5=b5∧a6=b6∧a7=b7∧a8=b8∧a9=b9∧a10=b10∧a11=b11∧a12=b12)) w:=by
 rw [run_equalIn_agg w (d+2) 125 _ _ (by kernel_rfl) (by kernel_rfl)];simp only [Program.fieldsOf,Tryz.underlying125,Op.eqFields,Sem.run_bind,Sem.run_ite,eqEv_f0,eqEv_f1,eqEv_f2,eqEv_f3,eqEv_f10,eqEv_f11,Result.andThen_ok,eqI,eqBi,eqDe];by_cases h0:a0=b0
 case neg=>simp [h0]
 subst h0;by_cases h1:a1=b1
 case neg=>simp [h1]
 subst h1;by_cases h2:a2=b2
 case neg=>simp [h2]
 subst h2;by_cases h3:a3=b3∧a4=b4∧a5=b5∧a6=b6∧a7=b7∧a8=b8∧a9=b9
 case neg=>
  have h3d:=decide_eq_false h3;have hx:¬ (a0=a0∧a1=a1∧a2=a2∧a3=b3∧a4=b4∧a5=b5∧a6=b6∧a7=b7∧a8=b8∧a9=b9∧a10=b10∧a11=b11∧a12=b12):=fun h=>h3 ⟨h.2.2.2.1,h.2.2.2.2.1,h.2.2.2.2.2.1,h.2.2.2.2.2.2.1,h.2.2.2.2.2.2.2.1,h.2.2.2.2.2.2.2.2.1,h.2.2.2.2.2.2.2.2.2.1⟩;simp only [h3d,decide_eq_false hx];simp;intro e3 e4 e5 e6 e7 e8 e9;exact absurd ⟨e3,e4,e5,e6,e7,e8,e9⟩ h3
 obtain ⟨rfl,rfl,rfl,rfl,rfl,rfl,rfl⟩:=h3;by_cases h10:a10=b10
 case neg=>simp [h10]
 subst h10;by_cases h11:a11=b11
 case neg=>simp [h11]
 subst h11;by_cases h12:a12=b12
 case neg=>simp [h12]
 subst h12;simp
end book
namespace acc
open tar (Du du0 Came RowD Ld PairT)
open Go.RowKit
def NumPost (w:World) (g:Nat) (x:Ac) (b:Bi) (p:Option Addr) (len cap:Nat) (e:Ending) (w':World):Prop:=
 Chg w w' g∧((¬ x.nx≤1048575∧e = .returned (zI 20)∧Blk w' g (wcs x b p len cap) 233)∨(x.nx≤1048575∧e = .returned (zI 0)∧Blk w' g (wcs { x with nx:=x.nx+1 } { b with id:=x.nx } p len cap) 233))
theorem pnum (g:Nat) (x:Ac) (b:Bi) (p:Option Addr) (len cap:Nat) (w:World) (hw:Blk w g (wcs x b p len cap) 233) (hn:1≤x.nx∧x.nx≤1048576):Calls Tryz.prog 121 #[.pointer (some ⟨g,0,none⟩)] w fun e w'=>NumPost w g x b p len cap e w':=by
 obtain ⟨me,rv,nx,mo,bo,fr,ds⟩:=x;obtain ⟨id,te,de,fe,pr,ch,un⟩:=b;simp only [] at hn;have HI:Hid (Blk w g #[zI me,zI rv,zI nx,zI mo,zI bo,zI fr,.slice p len cap,zI id,zI te,zI de,zI fe,zI pr,zI ch,zI un] 233):=hw;have q2:w.cell? ⟨g,2,none⟩=some (zI nx):=HI.o.cell 2;clear hw;by_cases h1:nx≤1048575
 ·have d1:decide (1048575<nx)=false:=decide_eq_false (by omega);have hwr:IntKind.i64.wrap (nx+1)=nx+1:=by rw [IntKind.wrap_i64];omega
  have H1:Hid (nx≤1048575):=h1;go_enter Tryz.func121,Tryz.ntmps121;go_wp2_with (first | (refine wp_let1 rfl 3 _ _ rfl g 7 rfl .i64 nx rfl (by kernel_rfl) #[zI me,zI rv,zI nx,zI mo,zI bo,zI fr,.slice p len cap,zI id,zI te,zI de,zI fe,zI pr,zI ch,zI un] 233 HI.o (by simp) ?_) | fail)
  intro W1 hU1;have HI1:Hid (Blk W1 g #[zI me,zI rv,zI nx,zI mo,zI bo,zI fr,.slice p len cap,zI nx,zI te,zI de,zI fe,zI pr,zI ch,zI un] 233):=hU1.blk;have HC1:Hid (Chg w W1 g):= .upd hU1;have q2':W1.cell? ⟨g,2,none⟩=some (zI nx):=HI1.o.cell 2;clear hU1 q2 HI d1;go_wp2_with (first | (refine wp_let1 rfl 3 _ _ rfl g 2 rfl .i64 (nx+1) rfl (by kernel_rfl) #[zI me,zI rv,zI nx,zI mo,zI bo,zI fr,.slice p len cap,zI nx,zI te,zI de,zI fe,zI pr,zI ch,zI un] 233 HI1.o (by simp) ?_) | fail)
  intro W2 hU2;have HI2:Hid (Blk W2 g #[zI me,zI rv,zI (nx+1),zI mo,zI bo,zI fr,.slice p len cap,zI nx,zI te,zI de,zI fe,zI pr,zI ch,zI un] 233):=hU2.blk;have HC2:Hid (Chg w W2 g):=HC1.o.trans (.upd hU2);clear hU2 q2' HI1 HC1;go_wp2_with fail;go_ret;exact ⟨HC2.o,.inr ⟨H1.o,rfl,HI2.o⟩⟩
 ·have d1:decide (1048575<nx)=true:=decide_eq_true (by omega);have H1:Hid (¬ nx≤1048575):=h1;clear h1 hn;go_enter Tryz.func121,Tryz.ntmps121;go_wp2_with fail;go_ret;exact ⟨Chg.refl _ _,.inl ⟨Int.not_le.2 H1.o,rfl,HI.o⟩⟩
end acc
end Go.Proofs.YtdpfnedfakgolaaGreatDoor
