import Derived.Test.YtnpblpbohcegoaaGreatDoorVVRry12
import Derived.Test.YtnpblpbohcegoaaGreatDoorVVRry14
set_option linter.unusedVariables false
set_option linter.unusedSimpArgs false
set_option maxHeartbeats 4000000
set_option maxRecDepth 100000
namespace Go.Proofs.YtnpblpbohcegoaaGreatDoor
namespace vnd
open book (Ev ev0 Cm cm0 So so0 Sees)
open acc (Ac Tm Bi)
open ora (Pr)
open cell (Wr RowU)
open rcp (Rc rc0)
open Go.RowKit
def LoadPost (w:World) (t:Tm) (c:List Int) (e:Ending) (w':World):Prop:=∃ p m cap xs bk f,e = .returned (.tuple #[.agg #[.slice p m cap],zI f])∧LoadIs t c bk f∧Sees w' p m xs bk∧m≤120∧Below w.heap.size w w'
structure Dk (w:World) (a:Option Addr) (n cap:Nat) (c:List Int):Prop where
 row:RowU w a n c
 nil:a=none→cap=0
 room:n≤cap
 bytes:n*4≤140737488351232
 wd:∀ x∈c,0≤x∧x<4294967296
theorem Dk.below {w w':World} {a:Option Addr} {n cap:Nat} {c:List Int} (h:Dk w a n cap c) (hb:Below w.heap.size w w'):Dk w' a n cap c:=⟨h.row.below hb,h.nil,h.room,h.bytes,h.wd⟩
def RprPost (w:World) (R:List UInt8→Int→Prop) (e:Ending) (w':World):Prop:=∃ l f,e = .returned (.tuple #[.string ⟨l.toArray⟩,zI f])∧R l f∧Below w.heap.size w w'
open cell (RowW)
def WrGot (w:World) (R:List Wr→Int→Prop) (e:Ending) (w':World):Prop:=∃ p m cp ls f,e = .returned (.tuple #[.slice p m cp,zI f])∧R ls f∧RowW w' p m ls∧(∀ x,p=some x→w.heap.size≤x.block)∧m≤cp∧m≤100000∧Below w.heap.size w w'
end vnd
namespace cell
open Go.RowKit
theorem copy_run (a:Addr) (n cc g:Nat) (zs:List Int) (w:World) (hz:zs.length=n) (hr:Blk w g (arr (List.replicate n 0)) 99) (hc:∀ i,i<n→w.cell? (a.add i)=some (.int .u32 (zs.getD i 0))) :
  (Builtin.copy_ #[25,25] 3 #[.slice (some ⟨g,0,none⟩) n n,.slice (some a) n cc]).run Tryz.prog w = .ok (zI (n:Int)) (w.setRow g (arr zs)):=by
 have hrun:=run_copy_row (P:=Tryz.prog) w 25 25 3 99 g 0 n n a n cc (arr (List.replicate n 0)) 99 (zs.map (Value.int .u32)) Tryz.underlying25 (by kernel_rfl) hr (by
   rw [List.length_map,hz];exact (Nat.min_self n).symm) (by
   intro j u hu;by_cases hj:j<zs.length
   ·simp [List.getElem?_eq_getElem hj] at hu;subst hu;have:=hc j (by omega);simpa [List.getD,List.getElem?_eq_getElem hj] using this
   ·rw [List.getElem?_eq_none (by simp;omega)] at hu;cases hu) (by simp [arr,hz]) (by
   intro u hu;obtain ⟨z,_,rfl⟩:=List.mem_map.1 hu;rfl)
 rw [hrun]
 congr 2
 ·rw [List.length_map,hz]
 ·unfold arr;simp [hz]
theorem setRow_blk {w:World} {g:Nat} {c0 c1:Array Value} {t:TypeId} (h:Blk w g c0 t):Blk (w.setRow g c1) g c1 t:=setRow_heap w g _ _ t _ h
theorem written_any (a b:Option Addr) (n m c1 c2:Nat) (xs:List Int) (ls:List Wr) (w:World) (h1:RowU w a n xs) (h2:RowW w b m ls) (hn:1≤n) (hn2:n≤2048) (hm:m≤4096) (hall:allN n ls=true) :
  Calls Tryz.prog 49 #[.slice a n c1,.slice b m c2] w fun e w'=>∃ g,e = .returned (.slice (some ⟨g,0,none⟩) n n)∧RowU w' (some ⟨g,0,none⟩) n (wrt xs ls)∧Below w.heap.size w w':=by
 have hmk:∀ W:World,(Instr.makeSlice 25 (zI (n:Int)) (zI (n:Int))).run Tryz.prog W = .ok (.slice (some ⟨W.heap.size,0,none⟩) n n) (W.alloc (.cells (arr (List.replicate n 0)) 99)):=make_u32 n (by omega);obtain ⟨b1,o1,rfl,l1,hc1⟩:=h1.at (by omega);have hz:=h1.1
 have hcp:=copy_run ⟨b1,o1,none⟩ n c1 w.heap.size xs (w.alloc (.cells (arr (List.replicate n 0)) 99)) hz (Blk.new _ _ _) (fun i hi=>by
  rw [Addr.add_lit,World.cell?_alloc_lt w _ _ l1];exact hc1 i hi)
 have HG0:Hid (Blk ((w.alloc (.cells (arr (List.replicate n 0)) 99)).setRow w.heap.size (arr xs)) w.heap.size (arr xs) 99):=setRow_blk (Blk.new _ _ _);have HB0:Hid (Below w.heap.size w ((w.alloc (.cells (arr (List.replicate n 0)) 99)).setRow w.heap.size (arr xs))):=below_setRow ((Below.refl _ _).alloc (Nat.le_refl _) _) (Nat.le_refl _) _;have HR:Hid (RowW w b m ls):=h2;have HA:Hid (allN n ls=true):=hall;have HL:Hid (xs.length=n∧ls.length=m):=⟨hz,h2.1⟩
 clear h1 h2 hc1 hall hz l1;generalize arr (List.replicate n 0)=zz at *;go_enter Tryz.func49,Tryz.ntmps49;go_wp2_with fail;generalize (w.alloc (Obj.cells zz 99)).setRow w.heap.size (arr xs)=W0 at *;generalize hgg:w.heap.size=g at *;have HGG:Hid (w.heap.size=g):=hgg;clear hgg hcp hmk;go_loopw [16] (fun i wr=>∃ k:Nat,k≤m∧i=zI (k:Int)∧Blk wr g (arr (wrt xs (ls.take k))) 99∧Below g w wr) (fun i _=>m - (intOf i).toNat)
 case atStart=>exact ⟨0,Nat.zero_le _,rfl,HG0.o,HB0.o⟩
 case round=>
  obtain ⟨k,hk,rfl,hg,hb⟩:=hrel;have HK:Hid (Blk wr g (arr (wrt xs (ls.take k))) 99):=hg;have HB:Hid (Below g w wr):=hb;clear hg hb HG0 HB0;by_cases hlt:k<m
  ·obtain ⟨b2,o2,rfl,l2,hc2⟩:=HR.o.at (by omega);rw [HGG.o] at l2;have f1:wr.cell? ⟨b2,o2+k*2,none⟩=some (zI (ls.getD k wr0).p):=(HB.o.cell (p:=⟨b2,o2+k*2,none⟩) l2).trans (hc2 k hlt).1;have f2:wr.cell? ⟨b2,o2+k*2+1,none⟩=some (.int .u32 (ls.getD k wr0).d):=(HB.o.cell (p:=⟨b2,o2+k*2+1,none⟩) l2).trans (hc2 k hlt).2;have hin:=allN_at HA.o k (by have:=HL.o.2;omega);have HST:Hid (wrt xs (ls.take (k+1))=(wrt xs (ls.take k)).set (ls.getD k wr0).p.toNat (ls.getD k wr0).d):=wrt_step xs ls k (by have:=HL.o.2;omega);have HLZ:Hid ((wrt xs (ls.take k)).length=n):=by show _=_;rw [wrt_len];exact HL.o.1
   clear hc2 l2;generalize (ls.getD k wr0).p=pz at *;generalize (ls.getD k wr0).d=d at *;generalize wrt xs (ls.take k)=zs at *;obtain ⟨p,rfl⟩:∃ p:Nat,pz=p:=⟨pz.toNat,by omega⟩
   obtain ⟨_,hp⟩:=hin;have hp':p<n:=by omega
   clear hp;rw [Int.toNat_natCast] at HST;have hN:=Blk.new wr #[zI (p:Int),.int .u32 d] 122;have hK:=HK.o.alloc (.cells #[zI (p:Int),.int .u32 d] 122);have n0:=hN.cell 0;have n1:=hN.cell 1;have k0:=Blk.word hK p (by rw [HLZ.o];exact hp');have k1:=hK.free p
   have HNX:Hid (Blk ((wr.alloc (.cells #[zI (p:Int),.int .u32 d] 122)).setCell ⟨g,p,none⟩ (.int .u32 d)) g (arr (wrt xs (ls.take (k+1)))) 99):=by
    have h:=hK.set p (.int .u32 d);rw [arr_set] at h;rw [HST.o];exact h
   have HBX:Hid (Below g w ((wr.alloc (.cells #[zI (p:Int),.int .u32 d] 122)).setCell ⟨g,p,none⟩ (.int .u32 d))):=by
    have h0:g≤wr.heap.size:=by have:=HB.o.size;have h3:=HGG.o;omega
    exact bel_set (HB.o.alloc h0 _) g p _ (Nat.le_refl _)
   clear hN hK;go_wp2_with fail;go_roundw
   case rel=>exact ⟨k+1,by omega,by go_num,HNX.o,HBX.o⟩
   case measure=>simp [intOf];omega
  ·obtain rfl:k=m:=by omega
   have HX:Hid (RowU wr (some ⟨g,0,none⟩) n (wrt xs ls)):=Blk.rowU (by have:=HK.o;rw [List.take_of_length_le (by have:=HL.o.2;omega)] at this;exact this) (by rw [wrt_len];exact HL.o.1);go_wp2_with fail;go_ret;exact ⟨g,rfl,HX.o,by rw [HGG.o];exact HB.o⟩
end cell
namespace book
open Go.RowKit
open acc (Ac Tm Bi APost BPost OweIs SellIs GrantIs RekeyIs)
theorem acc_upd {w W:World} {g:Nat} {cs:Array Value} {ty:TypeId} {a:Option Addr} {n cap:Nat} {zs:List tar.Du} (h:tar.Came w a n cap zs) (hU:Upd w W g cs ty) (hne:0<n→∀ x,a=some x→x.block≠g):tar.Came W a n cap zs:=by
 refine ⟨⟨h.row.1,?_⟩,h.nil,h.room,h.bytes,h.wf⟩;rcases h.row.2 with h0 | ⟨b,off,rfl,hc⟩
 ·exact .inl h0
 ·refine .inr ⟨b,off,rfl,fun i hi=>?_⟩;have h1:=hc i hi;have hb:b≠g:=hne (by omega) ⟨b,off,none⟩ rfl;rw [hU.cell ⟨b,off+i*2,none⟩ hb rfl,hU.cell ⟨b,off+i*2+1,none⟩ hb rfl];exact h1
theorem eqBi_f0 (a0 a1 a2 a3 a4 a5 a6:Int) (w:World):(part 3 #[zI a0,zI a1,zI a2,zI a3,zI a4,zI a5,zI a6] 0).run Tryz.prog w = .ok (zI a0) w:=by kernel_rfl
theorem eqBi_f1 (a0 a1 a2 a3 a4 a5 a6:Int) (w:World):(part 3 #[zI a0,zI a1,zI a2,zI a3,zI a4,zI a5,zI a6] 1).run Tryz.prog w = .ok (zI a1) w:=by kernel_rfl
theorem eqBi_f2 (a0 a1 a2 a3 a4 a5 a6:Int) (w:World):(part 3 #[zI a0,zI a1,zI a2,zI a3,zI a4,zI a5,zI a6] 2).run Tryz.prog w = .ok (zI a2) w:=by kernel_rfl
theorem eqBi_f3 (a0 a1 a2 a3 a4 a5 a6:Int) (w:World):(part 3 #[zI a0,zI a1,zI a2,zI a3,zI a4,zI a5,zI a6] 3).run Tryz.prog w = .ok (zI a3) w:=by kernel_rfl
theorem eqBi_f4 (a0 a1 a2 a3 a4 a5 a6:Int) (w:World):(part 3 #[zI a0,zI a1,zI a2,zI a3,zI a4,zI a5,zI a6] 4).run Tryz.prog w = .ok (zI a4) w:=by kernel_rfl
theorem eqBi_f5 (a0 a1 a2 a3 a4 a5 a6:Int) (w:World):(part 3 #[zI a0,zI a1,zI a2,zI a3,zI a4,zI a5,zI a6] 5).run Tryz.prog w = .ok (zI a5) w:=by kernel_rfl
theorem eqBi_f6 (a0 a1 a2 a3 a4 a5 a6:Int) (w:World):(part 3 #[zI a0,zI a1,zI a2,zI a3,zI a4,zI a5,zI a6] 6).run Tryz.prog w = .ok (zI a6) w:=by kernel_rfl
theorem eqBi (d:Nat) (a0 a1 a2 a3 a4 a5 a6 b0 b1 b2 b3 b4 b5 b6:Int) (w:World):(Op.equalIn (d+2) 68 (.agg #[zI a0,zI a1,zI a2,zI a3,zI a4,zI a5,zI a6]) (.agg #[zI b0,zI b1,zI b2,zI b3,zI b4,zI b5,zI b6])).run Tryz.prog w = .ok (decide (a0=b0∧a1=b1∧a2=b2∧a3=b3∧a4=b4∧a5=b5∧a6=b6)) w:=by
 rw [run_equalIn_agg w (d+1) 68 _ _ (by kernel_rfl) (by kernel_rfl)];simp only [Program.fieldsOf,Tryz.underlying68,Op.eqFields,Sem.run_bind,Sem.run_ite,eqBi_f0,eqBi_f1,eqBi_f2,eqBi_f3,eqBi_f4,eqBi_f5,eqBi_f6,Result.andThen_ok,eqI];by_cases h0:a0=b0
 case neg=>simp [h0]
 subst h0;by_cases h1:a1=b1
 case neg=>simp [h1]
 subst h1;by_cases h2:a2=b2
 case neg=>simp [h2]
 subst h2;by_cases h3:a3=b3
 case neg=>simp [h3]
 subst h3;by_cases h4:a4=b4
 case neg=>simp [h4]
 subst h4;by_cases h5:a5=b5
 case neg=>simp [h5]
 subst h5;by_cases h6:a6=b6
 case neg=>simp [h6]
 subst h6;simp
theorem eqDe_f0 (a0 a1:Int) (w:World):(part 3 #[zI a0,zI a1] 0).run Tryz.prog w = .ok (zI a0) w:=by kernel_rfl
theorem eqDe_f1 (a0 a1:Int) (w:World):(part 3 #[zI a0,zI a1] 1).run Tryz.prog w = .ok (zI a1) w:=by kernel_rfl
theorem eqDe (d:Nat) (a0 a1 b0 b1:Int) (w:World):(Op.equalIn (d+2) 70 (.agg #[zI a0,zI a1]) (.agg #[zI b0,zI b1])).run Tryz.prog w = .ok (decide (a0=b0∧a1=b1)) w:=by
 rw [run_equalIn_agg w (d+1) 70 _ _ (by kernel_rfl) (by kernel_rfl)];simp only [Program.fieldsOf,Tryz.underlying70,Op.eqFields,Sem.run_bind,Sem.run_ite,eqDe_f0,eqDe_f1,Result.andThen_ok,eqI];by_cases h0:a0=b0
 case neg=>simp [h0]
 subst h0;by_cases h1:a1=b1
 case neg=>simp [h1]
 subst h1;simp
theorem eqEv_f0 (a0 a1 a2 a3 a4 a5 a6 a7 a8 a9 a10 a11 a12:Int) (w:World):(part 3 #[zI a0,zI a1,zI a2,zI a3,zI a4,zI a5,zI a6,zI a7,zI a8,zI a9,zI a10,zI a11,zI a12] 0).run Tryz.prog w = .ok (zI a0) w:=by kernel_rfl
theorem eqEv_f1 (a0 a1 a2 a3 a4 a5 a6 a7 a8 a9 a10 a11 a12:Int) (w:World):(part 3 #[zI a0,zI a1,zI a2,zI a3,zI a4,zI a5,zI a6,zI a7,zI a8,zI a9,zI a10,zI a11,zI a12] 1).run Tryz.prog w = .ok (zI a1) w:=by kernel_rfl
theorem eqEv_f2 (a0 a1 a2 a3 a4 a5 a6 a7 a8 a9 a10 a11 a12:Int) (w:World):(part 3 #[zI a0,zI a1,zI a2,zI a3,zI a4,zI a5,zI a6,zI a7,zI a8,zI a9,zI a10,zI a11,zI a12] 2).run Tryz.prog w = .ok (zI a2) w:=by kernel_rfl
theorem eqEv_f3 (a0 a1 a2 a3 a4 a5 a6 a7 a8 a9 a10 a11 a12:Int) (w:World):(part 68 #[zI a0,zI a1,zI a2,zI a3,zI a4,zI a5,zI a6,zI a7,zI a8,zI a9,zI a10,zI a11,zI a12] 3).run Tryz.prog w = .ok (.agg #[zI a3,zI a4,zI a5,zI a6,zI a7,zI a8,zI a9]) w:=by kernel_rfl
theorem eqEv_f10 (a0 a1 a2 a3 a4 a5 a6 a7 a8 a9 a10 a11 a12:Int) (w:World):(part 3 #[zI a0,zI a1,zI a2,zI a3,zI a4,zI a5,zI a6,zI a7,zI a8,zI a9,zI a10,zI a11,zI a12] 10).run Tryz.prog w = .ok (zI a10) w:=by kernel_rfl
theorem eqEv_f11 (a0 a1 a2 a3 a4 a5 a6 a7 a8 a9 a10 a11 a12:Int) (w:World):(part 70 #[zI a0,zI a1,zI a2,zI a3,zI a4,zI a5,zI a6,zI a7,zI a8,zI a9,zI a10,zI a11,zI a12] 11).run Tryz.prog w = .ok (.agg #[zI a11,zI a12]) w:=by kernel_rfl
theorem eqEv (d:Nat) (a0 a1 a2 a3 a4 a5 a6 a7 a8 a9 a10 a11 a12 b0 b1 b2 b3 b4 b5 b6 b7 b8 b9 b10 b11 b12:Int) (w:World):(Op.equalIn (d+3) 72 (.agg #[zI a0,zI a1,zI a2,zI a3,zI a4,zI a5,zI a6,zI a7,zI a8,zI a9,zI a10,zI a11,zI a12]) (.agg #[zI b0,zI b1,zI b2,zI b3,zI b4,zI b5,zI b6,zI b7,zI b8,zI b9,zI b10,zI b11,zI b12])).run Tryz.prog w = .ok (decide (a0=b0∧a1=b1∧a2=b2∧a3=b3∧a4=b4∧a5=b5∧a6=b6∧a7=b7∧a8=b8∧a9=b9∧a10=b10∧a11=b11∧a12=b12)) w:=by
 rw [run_equalIn_agg w (d+2) 72 _ _ (by kernel_rfl) (by kernel_rfl)];simp only [Program.fieldsOf,Tryz.underlying72,Op.eqFields,Sem.run_bind,Sem.run_ite,eqEv_f0,eqEv_f1,eqEv_f2,eqEv_f3,eqEv_f10,eqEv_f11,Result.andThen_ok,eqI,eqBi,eqDe];by_cases h0:a0=b0
 case neg=>simp [h0]
 subst h0;by_cases h1:a1=b1
 case neg=>simp [h1]
 subst h1;by_cases h2:a2=b2
 case neg=>simp [h2]
 subst h2;by_cases h3:a3=b3∧a4=b4∧a5=b5∧a6=b6∧a7=b7∧a8=b8∧a9=b9
 case neg=>
  have h3d:=decide_eq_false h3;have hx:¬ (a0=a0∧a1=a1∧a2=a2∧a3=b3∧a4=b4∧a5=b5∧a6=b6∧a7=b7∧a8=b8∧a9=b9∧a10=b10∧a11=b11∧a12=b12):=fun h=>h3 ⟨h.2.2.2.1,h.2.2.2.2.1,h.2.2.2.2.2.1,h.2.2.2.2.2.2.1,h.2.2.2.2.2.2.2.1,h.2.2.2.2.2.2.2.2.1,h.2.2.2.2.2.2.2.2.2.1⟩;simp only [h3d,decide_eq_false hx];simp;intro e3 e4 e5 e6 e7 e8 e9;exact absurd ⟨e3,e4,e5,e6,e7,e8,e9⟩ h3
 obtain ⟨rfl,rfl,rfl,rfl,rfl,rfl,rfl⟩:=h3;by_cases h10:a10=b10
 case neg=>simp [h10]
 subst h10;by_cases h11:a11=b11
 case neg=>simp [h11]
 subst h11;by_cases h12:a12=b12
 case neg=>simp [h12]
 subst h12;simp
end book
namespace deb
open tar (Du du0 Came TwoPost)
open Go.RowKit
def KdRec:Prop:=∀ (W:World) (a:Option Addr) (len cap:Nat) (ls:List Du) (t bp:Int),Came W a len cap ls→(Lit.int .i64 t).wf=true→(Lit.int .i64 bp).wf=true→Calls Tryz.prog 164 #[.slice a len cap,zI t,zI bp] W fun e w'=>RecPost W ls t bp e w'
open tar (RowD Ld ErrPost PairT)
theorem krec:KdRec:=by
 intro w a len cap ls t bp hcame ht0 hb0;have hr:=hcame.row;have HSH:Hid (Calls Tryz.prog 191 #[.slice a len cap,zI t,zI bp] w fun e w'=>SharePost ls t bp w e w'):=pshare a len cap ls t bp w hr hcame.most;have HROW0:Hid (RowD w a len ls):=hr;clear hcame hr ht0 hb0;go_enter Tryz.func164,Tryz.ntmps164;go_wp2_with fail;refine HSH.o.mono ?_;rintro e w1 ⟨s,f,rfl,hf,hb1⟩;have HB1:Hid (Below w.heap.size w w1):=hb1;clear hb1 HSH;rcases hf with ⟨hm,hf,rfl⟩ | ⟨hm,⟨ht,hse,hg⟩ | ⟨ht,rfl,rfl⟩⟩
 ·have hne:(f != 0)=true:=by simpa using fun h=>hm (hf.ok.1 h)
  have HN:Hid (¬ Mays ls):=hm;have HF:Hid (FaultIs ls f):=hf;clear hf hm;go_wp2_with fail;go_ret3;exact ⟨none,0,0,[],0,f,rfl,.inl ⟨HN.o,HF.o,rfl,rfl⟩,fresh_nil _ _,HB1.o⟩
 ·subst hg;have HT:Hid (TMay t bp):=ht;have hsb:=share_bd ht;rw [← hse] at hsb;have HSE:Hid (s=t*bp / 10000):=hse;have HM:Hid (Mays ls):=hm;have HROW:Hid (RowD w1 a len ls):=HROW0.o.below HB1.o;have HLEN:Hid (ls.length=len):=HROW.o.1;have hl8:len≤8:=by have:=hm.1;have:=HLEN.o;omega
  clear ht hse hm HROW0;go_wp2_with fail;go_loopw [11,12,29] (fun u v x wr=>∃ (k:Nat) (V:Value),k≤len∧x=zI (k:Int)∧v=zI (max 0 (s - sumK ls k))∧V=u∧Ld 70 wr w1.heap.size V (recK ls s k)∧Below w1.heap.size w1 wr) (fun _ _ x _=>len - (intOf x).toNat)
  case atStart=>exact ⟨0,_,Nat.zero_le _,rfl,by show _=Value.int .i64 (max 0 (s - 0));rw [show max 0 (s - 0)=s by omega],rfl,tar.Ld.zero _ _ _,Below.refl _ _⟩
  case round=>
   obtain ⟨k,V,hk,rfl,rfl,hV,hu,hb⟩:=hrel;subst hV;have HBW:Hid (Below w1.heap.size w1 wr):=hb;have HU:Hid (Ld 70 wr w1.heap.size V (recK ls s k)):=hu;have hsk:=sumK_bd HM.o k (by rw [HLEN.o];exact hk);by_cases hlt:k<len
   ·have hdl:decide ((k:Int)<(len:Int))=true:=by simp;omega
    obtain ⟨b,off,rfl,hbl,hc⟩:=HROW.o.at (by omega);have c0:wr.cell? ⟨b,off+k*2,none⟩=some (zI (ls.getD k du0).a):=(hb.cell (p:=⟨b,off+k*2,none⟩) hbl).trans (hc k hlt).1;have c1:wr.cell? ⟨b,off+k*2+1,none⟩=some (zI (ls.getD k du0).b):=(hb.cell (p:=⟨b,off+k*2+1,none⟩) hbl).trans (hc k hlt).2;have ho:=HM.o.2 k (by rw [HLEN.o];exact hlt);have ho1:=ho.1.1;have ho2:=ho.1.2;have HN:Hid (sumK ls k+(ls.getD k du0).a=sumK ls (k+1)):=(sumK_next ls k).symm;have HY:Hid (0<left (ls.getD k du0).a (sumK ls k+(ls.getD k du0).a) s→recK ls s (k+1)=recK ls s k++[⟨left (ls.getD k du0).a (sumK ls k+(ls.getD k du0).a) s,(ls.getD k du0).b⟩]):=recK_yes ls s k;have HZ:Hid (¬ 0<left (ls.getD k du0).a (sumK ls k+(ls.getD k du0).a) s→recK ls s (k+1)=recK ls s k):=recK_no ls s k;have hzl:(recK ls s k).length≤1000000:=by have:=recK_len ls s k;omega
    clear hc hb hu ho;generalize recK ls s k=Z at *;generalize hq1:sumK ls k=q at *;generalize (ls.getD k du0).a=x at *;generalize (ls.getD k du0).b=y at *;have HBX:Hid (Blk (wr.alloc (.cells #[zI x,zI y] 70)) wr.heap.size #[zI x,zI y] 70):=Blk.new wr _ _;generalize hR:max 0 (s - q)=R at *;have hR0:0≤R:=by omega
    have hR1:R≤100000000:=by omega
    have hmin:=tar.run_min R x _ rfl;generalize hp:min R x=p at *;have hp0:0≤p:=by omega
    have hp1:p≤x:=by omega
    have hp2:p≤R:=by omega
    by_cases hpos:0<x - p
    ·
     have HRN:Hid (R - p=max 0 (s - sumK ls (k+1))):=by show _=_;rw [← HN.o];omega
     have hd2:decide (0<x - p)=true:=decide_eq_true hpos;have hle:left x (q+x) s=x - p:=by unfold left;omega
     rw [hle] at HY;have HZ2:Hid (recK ls s (k+1)=Z++[⟨x - p,y⟩]):=HY.o hpos;clear HY HZ hle;clear hq1 hR hp hsk HN
     go_wp2_with (first
      | (refine wp_let1 rfl 3 _ _ rfl (wr.heap.size) 0 rfl .i64 (x - p) rfl (by kernel_rfl) #[zI x,zI y] 70 HBX.o (by simp) ?_)
      | fail)
     intro W1 hU1;have HX1:Hid (Blk W1 wr.heap.size #[zI (x - p),zI y] 70):=hU1.blk;have hbw:Below wr.heap.size wr W1:=hU1.bel _ _ (Nat.le_refl _) ((Below.refl _ _).alloc (Nat.le_refl _) _);have HBW1:=shB HBW hbw;have HU1:Hid (Ld 70 W1 w1.heap.size V Z):=HU.o.next hbw;have d0:W1.cell? ⟨wr.heap.size,0,none⟩=some (zI (x - p)):=HX1.o.cell 0;have d1:W1.cell? ⟨wr.heap.size,1,none⟩=some (zI y):=HX1.o.cell 1;clear hU1 hbw HBX HBW HU c0 c1;have HBA:Hid (Below w1.heap.size w1 (W1.alloc (.cells #[zI (x - p),zI y] 70))):=HBW1.o.alloc HBW1.o.size _;have HZA:Hid (Ld 70 (W1.alloc (.cells #[zI (x - p),zI y] 70)) w1.heap.size V Z):=HU1.o.alloc _;have HCA:Hid ((W1.alloc (.cells #[zI (x - p),zI y] 70)).cell? ⟨W1.heap.size,0,none⟩=some (zI (x - p))∧(W1.alloc (.cells #[zI (x - p),zI y] 70)).cell? ⟨W1.heap.size,1,none⟩=some (zI y)):=⟨(Blk.new W1 _ _).cell 0,(Blk.new W1 _ _).cell 1⟩
     go_wp2_with (first
      | (at_builtin;refine tar.wp_pair debtT rfl _ _ rfl w1.heap.size (W1.heap.size) V Z ⟨x - p,y⟩ rfl rfl HZA.o HCA.o hzl HBA.o.size ?_)
      | fail)
     intro v3 w3 h3 hg3;have HB3:Hid (Below w1.heap.size w1 w3):=tar.own_bel HZA.o hg3 HBA.o (Nat.le_refl _) HBA.o.size;have H3:Hid (Ld 70 w3 w1.heap.size v3 (Z++[⟨x - p,y⟩])):=h3;clear h3 hg3 HZA HCA HBA HU1 d0 d1;go_wp2_with fail;go_roundw
     case rel=>exact ⟨k+1,v3,by omega,by go_num,by rw [← HRN.o],by first | rfl | trivial,by rw [HZ2.o];exact H3.o,HB3.o⟩
     case measure=>simp [intOf];omega
    ·
     have HRN:Hid (R - p=max 0 (s - sumK ls (k+1))):=by show _=_;rw [← HN.o];omega
     have hd2:decide (0<x - p)=false:=decide_eq_false hpos;have hle:¬ 0<left x (q+x) s:=by unfold left;omega
     have HZ2:Hid (recK ls s (k+1)=Z):=HZ.o hle;clear HY HZ hle;clear hq1 hR hp hsk HN
     go_wp2_with (first
      | (refine wp_let1 rfl 3 _ _ rfl (wr.heap.size) 0 rfl .i64 (x - p) rfl (by kernel_rfl) #[zI x,zI y] 70 HBX.o (by simp) ?_)
      | fail)
     intro W1 hU1;have HX1:Hid (Blk W1 wr.heap.size #[zI (x - p),zI y] 70):=hU1.blk;have hbw:Below wr.heap.size wr W1:=hU1.bel _ _ (Nat.le_refl _) ((Below.refl _ _).alloc (Nat.le_refl _) _);have HBW1:=shB HBW hbw;have HU1:Hid (Ld 70 W1 w1.heap.size V Z):=HU.o.next hbw;have d0:W1.cell? ⟨wr.heap.size,0,none⟩=some (zI (x - p)):=HX1.o.cell 0;have d1:W1.cell? ⟨wr.heap.size,1,none⟩=some (zI y):=HX1.o.cell 1;clear hU1 hbw HBX HBW HU c0 c1;go_wp2_with fail;go_roundw
     case rel=>exact ⟨k+1,V,by omega,by go_num,by rw [← HRN.o],by first | rfl | trivial,by rw [HZ2.o];exact HU1.o,HBW1.o⟩
     case measure=>simp [intOf];omega
   ·obtain rfl:k=len:=by omega
    have hdl:decide ((k:Int)<(k:Int))=false:=by simp
    have HV:Hid (sumK ls k=sumD ls):=by have:=sumK_all ls;rw [HLEN.o] at this;exact this
    have HRE:Hid (recK ls s k=recK ls (t*bp / 10000) ls.length):=by show _=_;rw [HLEN.o,HSE.o]
    have hmz:Mays (recK ls s k):=⟨Nat.le_trans (recK_len ls s k) hl8,fits_mem fun d hd=>(recK_ok HM.o s k (by rw [HLEN.o];exact Nat.le_refl _) d hd).1⟩
    obtain ⟨a3,cap3,hv3,hcm⟩:=ld_fresh hu hmz;subst hv3;have HCM:Hid (Fresh wr w.heap.size a3 (recK ls s k).length cap3 (recK ls s k)):=hcm.low HB1.o.size;have HB9:Hid (Below w.heap.size w wr):=HB1.o.trans (HBW.o.mono HB1.o.size);have HP:Hid (s - max 0 (s - sumK ls k)=min (t*bp / 10000) (sumD ls)):=by show _=_;rw [← HSE.o,← HV.o];omega
    clear hb hu hmz hcm HU;generalize (recK ls s k).length=len3 at *;generalize recK ls s k=Z at *;generalize hq:max 0 (s - sumK ls k)=q at *;have hq0:0≤q:=by omega
    have hq1:q≤s:=by omega
    clear hq hsk;go_wp2_with fail;go_ret3;exact ⟨a3,len3,cap3,Z,s - q,0,rfl,.inr (.inr ⟨HM.o,HT.o,rfl,HRE.o,HP.o⟩),HCM.o,HB9.o⟩
 ·have HM:Hid (Mays ls):=hm;have HT:Hid (¬ TMay t bp):=ht;clear ht hm;go_wp2_with fail;go_ret3;exact ⟨none,0,0,[],0,2,rfl,.inr (.inl ⟨HM.o,HT.o,rfl,rfl,rfl⟩),fresh_nil _ _,HB1.o⟩
end deb
end Go.Proofs.YtnpblpbohcegoaaGreatDoor
