import Derived.Test.YtdpfnedfakgolaaGreatDoorVVPer21
set_option linter.unusedVariables false
set_option linter.unusedSimpArgs false
set_option maxHeartbeats 4000000
set_option maxRecDepth 100000
namespace Go.Proofs.YtdpfnedfakgolaaGreatDoor
namespace token
open words
open Go.RowKit
def fP (V:Nat):Nat→Nat
 | 0=>(tokOf V).c
 | 1=>(tokOf V).i
 | 2=>(tokOf V).a
 | _=>(tokOf V).t
theorem step_F (V j:Nat) (hj:j<4):1≤nP j∧nP j≤64∧loP j+nP j≤96∧V / 2 ^ loP j % 2 ^ nP j=fP V j∧fP V j<9223372036854775808:=by
 match j,hj with
 | 0,_=>exact ⟨by decide,by decide,by decide,rfl,by show V / 144115188075855872 % 8<_;omega⟩
 | 1,_=>exact ⟨by decide,by decide,by decide,rfl,by show V / 137438953472 % 1048576<_;omega⟩
 | 2,_=>exact ⟨by decide,by decide,by decide,rfl,by show V / 65536 % 2097152<_;omega⟩
 | 3,_=>exact ⟨by decide,by decide,by decide,by show V / 1 % 65536=V % 65536;rw [Nat.div_one],by show V % 65536<_;omega⟩
def gP (V j i:Nat):Nat:=if i<j then fP V i else 0
structure Uk (w wr:World) (V j a b c:Nat):Prop where
 below:Below w.heap.size w wr
 num:Blk wr w.heap.size #[.int .u32 (a:Int),.int .u32 (b:Int),.int .u32 (c:Int)] 89
 res:Blk wr (w.heap.size+1) #[zI 0,zI 0,zI 0,zI 0] 54
 fld:Blk wr (w.heap.size+1+1) #[zI (gP V j 0:Int),zI (gP V j 1:Int),zI (gP V j 2:Int),zI (gP V j 3:Int)] 146
theorem uk_next {w wr:World} {V j a b c:Nat} (hj:j<4) (hB:Below w.heap.size w wr) (hN:Blk wr w.heap.size #[.int .u32 (a:Int),.int .u32 (b:Int),.int .u32 (c:Int)] 89) (hR:Blk wr (w.heap.size+1) #[zI 0,zI 0,zI 0,zI 0] 54)
  (hF:Blk wr (w.heap.size+1+1) #[zI (gP V j 0:Int),zI (gP V j 1:Int),zI (gP V j 2:Int),zI (gP V j 3:Int)] 146):Uk w (wr.setCell ⟨w.heap.size+1+1,j,none⟩ (zI (fP V j:Int))) V (j+1) a b c:=by
 refine ⟨bel_set hB _ _ _ (by omega),hN.other _ _ (by omega),hR.other _ _ (by omega),?_⟩;have h:=hF.set j (zI (fP V j:Int));rcases (by omega:j=0∨j=1∨j=2∨j=3) with rfl | rfl | rfl | rfl <;> exact h
theorem unpack_any (a b c V:Nat) (w:World) (hw:WN a b c V) (ht:TTab w) :
  Calls Tryz.prog 26 #[.agg #[.int .u32 (a:Int),.int .u32 (b:Int),.int .u32 (c:Int)]] w fun e w'=>e = .returned (tokOf V).v∧Below w.heap.size w w':=by
 have hb0:Below w.heap.size w (((w.alloc (.cells #[.int .u32 (a:Int),.int .u32 (b:Int),.int .u32 (c:Int)] 89)).alloc (.cells #[zI 0,zI 0,zI 0,zI 0] 54)).alloc (.cells #[zI 0,zI 0,zI 0,zI 0] 146)):=
  (((Below.refl _ _).alloc (Nat.le_refl _) _).alloc (by simp) _).alloc (by simp;omega) _
 obtain ⟨q0,q1,q2,q3,q4,q5,q6,q7⟩:=(ht.places.below hb0).cell
 have HP:Hid (Uk w (((w.alloc (.cells #[.int .u32 (a:Int),.int .u32 (b:Int),.int .u32 (c:Int)] 89)).alloc (.cells #[zI 0,zI 0,zI 0,zI 0] 54)).alloc (.cells #[zI 0,zI 0,zI 0,zI 0] 146)) V 0 a b c):=
  ⟨hb0,((Blk.new _ _ _).alloc _).alloc _,(Blk.new1 _ _ _ _).alloc _,Blk.new2 _ _ _ _ _⟩
 have HW:Hid (WN a b c V):=hw;clear hw ht hb0;go_enter Tryz.func26,Tryz.ntmps26;go_wp2_with fail;generalize (((w.alloc (.cells #[.int .u32 (a:Int),.int .u32 (b:Int),.int .u32 (c:Int)] 89)).alloc (.cells #[zI 0,zI 0,zI 0,zI 0] 54)).alloc (.cells #[zI 0,zI 0,zI 0,zI 0] 146))=W0 at *;clear q0 q1 q2 q3 q4 q5 q6 q7;go_loopw [9] (fun v wr=>∃ j:Nat,j≤4∧v=zI (j:Int)∧Uk w wr V j a b c) (fun v _=>4 - (intOf v).toNat)
 case atStart=>exact ⟨0,by omega,rfl,HP.o⟩
 case round=>
  obtain ⟨j,hj,rfl,hp⟩:=hrel;by_cases hlt:j<4
  ·have hst:=step_F V j hlt
   have HC:Hid (∀ W,Calls Tryz.prog 28 #[.agg #[.int .u32 (a:Int),.int .u32 (b:Int),.int .u32 (c:Int)],zI (loP j:Int),zI (nP j:Int)] W fun e w'=>e = .returned (.tuple #[.int .u64 (fP V j:Nat),zI 0])∧Below W.heap.size W w'):=fun W=>by
    have:=bits_wn a b c (loP j) (nP j) V W HW.o hst.1 hst.2.1 hst.2.2.1
    rwa [hst.2.2.2.1] at this
   have hix:=idxP j hlt;have hwr:IntKind.i64.wrap (fP V j:Int)=(fP V j:Int):=wrap_i _ hst.2.2.2.2;have HU:Hid (∀ W,Below wr.heap.size wr W→Uk w (W.setCell ⟨w.heap.size+1+1,j,none⟩ (zI (fP V j:Int))) V (j+1) a b c):=fun W hb=>uk_next hlt (bel_step hp.below hb) (hp.num.next hb) (hp.res.next hb) (hp.fld.next hb)
   have HF:Hid (∀ W,Below wr.heap.size wr W→W.cell? ⟨w.heap.size+1+1,j,none⟩=some (zI (gP V j j:Int))∧W.frozen? ⟨w.heap.size+1+1,j,none⟩=false):=fun W hb=>by
    have h:=hp.fld.next hb;refine ⟨?_,h.free j⟩;rw [h.cell];rcases (by omega:j=0∨j=1∨j=2∨j=3) with rfl | rfl | rfl | rfl <;> rfl
   generalize fP V j=v at *;generalize gP V j j=v0 at *;generalize loP j=lo at *;generalize nP j=n at *;clear hst;have hjj:(j:Int)<4:=by omega
   have hPl:=Blk.new wr #[zI (lo:Int),zI (n:Int)] 148;have hNu:=hp.num.alloc (.cells #[zI (lo:Int),zI (n:Int)] 148);have hBe:Below wr.heap.size wr (wr.alloc (.cells #[zI (lo:Int),zI (n:Int)] 148)):=(Below.refl _ _).alloc (Nat.le_refl _) _;have k0:=hNu.cell 0;have k1:=hNu.cell 1;have k2:=hNu.cell 2;have k3:=hPl.cell 0;have k4:=hPl.cell 1;have HB:Hid (Below wr.heap.size wr (wr.alloc (.cells #[zI (lo:Int),zI (n:Int)] 148))):=hBe;clear hp hPl hNu hBe;go_wp2_with fail;refine (HC.o _).mono ?_;rintro e w2 ⟨rfl,hb2⟩;have hB2:=bel_step HB.o hb2;obtain ⟨c0,f0⟩:=HF.o w2 hB2;have HQ:Hid _:=HU.o w2 hB2;clear hB2 hb2 HB k0 k1 k2 k3 k4 HC HF HU;go_wp2_with fail;go_roundw
   case rel=>exact ⟨j+1,by omega,by go_num,HQ.o⟩
   case measure=>simp [intOf];omega
  ·obtain rfl:j=4:=by omega
   have r0:=hp.fld.cell 0;have r1:=hp.fld.cell 1;have r2:=hp.fld.cell 2;have r3:=hp.fld.cell 3;have s0:=hp.res.cell 0;have s1:=hp.res.cell 1;have s2:=hp.res.cell 2;have s3:=hp.res.cell 3;have f0:=hp.res.free 0;have f1:=hp.res.free 1;have f2:=hp.res.free 2;have f3:=hp.res.free 3;have HV:Hid ((tokOf V).v = .agg #[zI (gP V 4 0:Int),zI (gP V 4 1:Int),zI (gP V 4 2:Int),zI (gP V 4 3:Int)]):=rfl;generalize ((gP V 4 0:Nat):Int)=v0 at *;generalize ((gP V 4 1:Nat):Int)=v1 at *;generalize ((gP V 4 2:Nat):Int)=v2 at *;generalize ((gP V 4 3:Nat):Int)=v3 at *;have HB:Hid (Below w.heap.size w ((((wr.setCell ⟨w.heap.size+1,0,none⟩ (zI v0)).setCell ⟨w.heap.size+1,1,none⟩ (zI v1)).setCell ⟨w.heap.size+1,2,none⟩ (zI v2)).setCell ⟨w.heap.size+1,3,none⟩ (zI v3))):=bel_set (bel_set (bel_set (bel_set hp.below _ _ _ (by omega)) _ _ _ (by omega)) _ _ _ (by omega)) _ _ _ (by omega);have RR:Blk ((((wr.setCell ⟨w.heap.size+1,0,none⟩ (zI v0)).setCell ⟨w.heap.size+1,1,none⟩ (zI v1)).setCell ⟨w.heap.size+1,2,none⟩ (zI v2)).setCell ⟨w.heap.size+1,3,none⟩ (zI v3)) (w.heap.size+1) #[zI v0,zI v1,zI v2,zI v3] 54:=(((hp.res.set 0 _).set 1 _).set 2 _).set 3 _;have R0:Hid (_=_):=RR.cell 0;have R1:Hid (_=_):=RR.cell 1;have R2:Hid (_=_):=RR.cell 2;have R3:Hid (_=_):=RR.cell 3;clear hp RR;go_wp2_with fail;refine bodyPost_ret (v:= .agg #[zI v0,zI v1,zI v2,zI v3]) (by simp [results,Tryz.results26,R0.o,R1.o,R2.o,R3.o,go_sem]) rfl ⟨by rw [HV.o],HB.o⟩
end token
namespace ora
open Go.RowKit
set_option maxRecDepth 100000
theorem step_pr {w : World} {ops : Array Oper} {o : Oper} {a : Act} {K : Act → World → Prop} {Q : Exit → Act → World → Prop} {E : Prop} (hgd : o.guard = none) (s x : Operand)
  (ho : o.op = .call { callee := .builtin .append, args := #[s, x], argTypes := #[32, 32] })
  (base G : Nat) (v : Value) (l : List Pr) (r : Pr) (hs : a.eval s = v) (hx : a.eval x = .slice (some ⟨G, 0, none⟩) 1 1) (hv : Pw w base v l) (hu : PrAt w G 0 r) (hn : l.length ≤ 1000000) (hbase : base ≤ w.heap.size)
  (h : ∀ v' w', Pw w' base v' (l ++ [r]) → w.grownBy w' v.ownBlock → K (a.put o.dst v') w') : if Region.wanted o (yielded ops a.tmps) = true then Oper.wp Tryz.prog o a w K Q else E := by
 have hw : Region.wanted o (yielded ops a.tmps) = true := by simp [Region.wanted, hgd]
 rw [if_pos hw]
 obtain ⟨i0, hi, hz0, hz1, hz2⟩ := info_parts info_pr
 obtain ⟨v', w', hr, h2, h3, _⟩ := run_append_own (P := Tryz.prog) w base 32 o.type 158 i0 (.agg #[.int .i64 0, .int .i64 0, .int .i64 0, .int .i64 0]) 4 32 Tryz.underlying32 hi hz0 hz1 hz2 rfl (by decide) v l.length (cellsP l) hv ⟨G, 0, none⟩ 1 1 (cellsP [r]) rfl (by
  intro j u hj
  match j, hj with
  | 0, hj => simp [cellsP] at hj; subst hj; simpa [Addr.add] using hu.1
  | 1, hj => simp [cellsP] at hj; subst hj; simpa [Addr.add] using hu.2.1
  | 2, hj => simp [cellsP] at hj; subst hj; simpa [Addr.add] using hu.2.2.1
  | 3, hj => simp [cellsP] at hj; subst hj; simpa [Addr.add] using hu.2.2.2
  | j + 4, hj => simp [cellsP] at hj) (oneP [r]) (by unfold maxLen; omega) (by omega) hbase
 unfold Oper.wp execOp
 simp only [ho, resolve, invoke, builtin, Sem.run_bind, Sem.run_pure, Result.andThen_ok, List.map_toArray, List.map_cons, List.map_nil, hs, hx, hr]
 refine h v' w' ?_ h3
 unfold Pw
 rw [List.length_append, cellsP_app]
 exact h2
def IssueQ (w : World) (l : List Pr) (m r b d : Int) (e : Ending) (w' : World) : Prop :=
 ∃ v ls x c, e = .returned (.tuple #[.agg #[v], .int .i64 x, .int .i64 c]) ∧ Pw w' w.heap.size v ls ∧ IssueIs l m r b d ls x c ∧ Below w.heap.size w w'
theorem Pw.lies {w : World} {base : Nat} {v : Value} {l : List Pr} (h : Pw w base v l) : ∃ a cap, v = .slice a l.length cap ∧ RowP w a l.length l ∧ (a = none → cap = 0) ∧ l.length ≤ cap ∧ (∀ y, a = some y → base ≤ y.block ∧ y.block < w.heap.size) := by
 obtain ⟨a, cap, hv, h1, h2, h3⟩ := h.row
 refine ⟨a, cap, hv, h1, h2, h3, fun y hy => ?_⟩
 subst hy
 have := World.ownsRow.lt h y.block (by rw [hv]; rfl)
 exact ⟨this.1, this.2⟩
structure Bj (w wr : World) (a : Option Addr) (n cap : Nat) (l : List Pr) (G : Nat) (m r b d : Int) : Prop where
 bi : Bi w wr a n cap l
 pr : Blk wr G #[.int .i64 m, .int .i64 r, .int .i64 b, .int .i64 d] 158
theorem Bj.next {w wr w' : World} {a : Option Addr} {n cap : Nat} {l : List Pr} {G : Nat} {m r b d : Int} (h : Bj w wr a n cap l G m r b d) (hb : Below wr.heap.size wr w') : Bj w w' a n cap l G m r b d := ⟨h.bi.next hb, h.pr.next hb⟩
theorem Bj.alloc {w wr : World} {a : Option Addr} {n cap : Nat} {l : List Pr} {G : Nat} {m r b d : Int} (h : Bj w wr a n cap l G m r b d) (o : Obj) : Bj w (wr.alloc o) a n cap l G m r b d := h.next ((Below.refl _ _).alloc (Nat.le_refl _) _)
theorem Bj.drew {w wr : World} {a : Option Addr} {n cap : Nat} {l : List Pr} {G : Nat} {m r b d : Int} (h : Bj w wr a n cap l G m r b d) (q : Nat) : Bj w (wr.drewN q) a n cap l G m r b d := h.next (bel_drew (Below.refl _ _) q)
theorem Bj.cells {w wr : World} {a : Option Addr} {n cap : Nat} {l : List Pr} {G : Nat} {m r b d : Int} (h : Bj w wr a n cap l G m r b d) : wr.cell? ⟨w.heap.size, 0, none⟩ = some (.slice a n cap) ∧ wr.cell? ⟨G, 0, none⟩ = some (.int .i64 m) ∧ wr.cell? ⟨G, 0 + 1, none⟩ = some (.int .i64 r) ∧ wr.cell? ⟨G, 0 + 2, none⟩ = some (.int .i64 b) ∧ wr.cell? ⟨G, 0 + 3, none⟩ = some (.int .i64 d) :=
 ⟨h.bi.bo.box.cell 0, h.pr.cell 0, h.pr.cell 1, h.pr.cell 2, h.pr.cell 3⟩
theorem Bj.ne {w wr : World} {a : Option Addr} {n cap : Nat} {l : List Pr} {G : Nat} {m r b d : Int} (h : Bj w wr a n cap l G m r b d) : w.heap.size + 1 ≠ G := by
 rintro rfl
 have h1 := h.pr; have h2 := h.bi.out
 unfold Blk at h1 h2
 rw [h1] at h2; simp at h2
theorem Bj.put {w wr : World} {a : Option Addr} {n cap : Nat} {l : List Pr} {G : Nat} {m r b d : Int} (h : Bj w wr a n cap l G m r b d) (u : Value) : (wr.setCell ⟨w.heap.size + 1, 0, none⟩ u).cell? ⟨w.heap.size, 0, none⟩ = some (.slice a n cap) ∧ (wr.setCell ⟨w.heap.size + 1, 0, none⟩ u).cell? ⟨G, 0, none⟩ = some (.int .i64 m) ∧ (wr.setCell ⟨w.heap.size + 1, 0, none⟩ u).cell? ⟨G, 0 + 1, none⟩ = some (.int .i64 r) ∧ (wr.setCell ⟨w.heap.size + 1, 0, none⟩ u).cell? ⟨G, 0 + 2, none⟩ = some (.int .i64 b) ∧ (wr.setCell ⟨w.heap.size + 1, 0, none⟩ u).cell? ⟨G, 0 + 3, none⟩ = some (.int .i64 d) := by
 have h1 := Blk.other h.bi.bo.box 0 u (G' := w.heap.size + 1) (by omega)
 have h2 := Blk.other h.pr 0 u h.ne
 exact ⟨h1.cell 0, h2.cell 0, h2.cell 1, h2.cell 2, h2.cell 3⟩
structure En (w W : World) (v : Value) (ls : List Pr) : Prop where
 pw : Pw W w.heap.size v ls
 cell : W.cell? ⟨w.heap.size + 1, 0, none⟩ = some v
 bel : Below w.heap.size w W
theorem En.of {w w6 : World} {a : Option Addr} {n cap : Nat} {l : List Pr} {v : Value} {ls : List Pr} (hi : Bi w w6 a n cap l) (hp : Pw w6 w.heap.size v ls) : En w (w6.setCell ⟨w.heap.size + 1, 0, none⟩ v) v ls :=
 ⟨hp.put2 hi.out (by decide) 0 v, by have := (hi.out.set 0 v).cell 0; exact this, bel_set hi.bo.bel _ _ _ (by omega)⟩
set_option maxHeartbeats 2000000 in
theorem poi (a : Option Addr) (n cap : Nat) (l : List Pr) (m r b d : Int) (w : World) (hr : RowP w a n l) :
  Calls Tryz.prog 122 #[.agg #[.slice a n cap], .int .i64 m, .int .i64 r, .int .i64 b, .int .i64 d] w fun e w' => IssueQ w l m r b d e w' := by
 have HB0 : Hid (Bi w ((w.alloc (.cells #[.slice a n cap] 34)).alloc (.cells #[.slice none 0 0] 34)) a n cap l) := ⟨(Bo.new hr).alloc _, Blk.new1 w _ _ _⟩
 have HL : Hid (l.length = n) := hr.1
 have HG : Hid (∀ W, RowP W a n l → Calls Tryz.prog 30 #[.agg #[.slice a n cap]] W fun e w' => Given W l e w') := fun W h => given_any a n cap l W h
 have HCL : Hid (∀ W, n ≤ 500 → RowP W a n l → Calls Tryz.prog 141 #[.slice a n cap] W fun e w' => GaveV W l e w') := fun W h0 h => pclone_any a n cap l W h (by omega)
 have HPM : Hid (∀ W, Calls Tryz.prog 64 #[.agg #[.int .i64 m, .int .i64 r, .int .i64 b, .int .i64 d]] W fun e w' => Told W (Pr.mk m r b d).may e w') := fun W => within_any m r b d W
 have HOF : Hid (∀ W, Calls Tryz.prog 63 #[.agg #[.int .i64 m, .int .i64 r, .int .i64 b, .int .i64 d]] W fun e w' => e = .returned (.agg #[.int .i64 m, .int .i64 r, .int .i64 b]) ∧ Below W.heap.size W w') := fun W => of_any m r b d W
 clear hr
 have c0 := HB0.out.bo.box.cell 0
 go_enter Tryz.func122, Tryz.ntmps122
 go_wp2_with fail
 refine (HG.out _ HB0.out.bo.row).mono ?_
 rintro e w1 ⟨hb1, ⟨hm, B, rfl, hmp⟩ | ⟨hm, rfl⟩⟩
 ·have HI1 : Hid (Bi w w1 a n cap l) := HB0.out.next hb1
  have hn : n ≤ 500 := by rw [← HL.out]; exact hm.few
  have HMY : Hid (May l) := hm
  have HJ2 : Hid (Bj w (w1.alloc (.cells #[.int .i64 m, .int .i64 r, .int .i64 b, .int .i64 d] 158)) a n cap l w1.heap.size m r b d) := ⟨HI1.out.alloc _, Blk.new w1 _ _⟩
  have HM2 : Hid (Mp (w1.alloc (.cells #[.int .i64 m, .int .i64 r, .int .i64 b, .int .i64 d] 158)) B l) := hmp.below ((Below.refl _ _).alloc (Nat.le_refl _) _)
  have p0 := HJ2.out.pr.cell 0
  have p1 := HJ2.out.pr.cell 1
  have p2 := HJ2.out.pr.cell 2
  have p3 := HJ2.out.pr.cell 3
  clear hb1 hm hmp HB0 c0 HI1
  go_wp2_with fail
  refine (HPM.out _).mono ?_
  rintro e w2 ⟨rr, rfl, hrr, hb2⟩
  have HJ3 : Hid (Bj w w2 a n cap l w1.heap.size m r b d) := HJ2.out.next hb2
  have HM3 : Hid (Mp w2 B l) := HM2.out.below hb2
  clear hb2 HJ2 HM2 p0 p1 p2 p3
  generalize w1.heap.size = gp at *
  have z0 := HJ3.out.bi.out.cell 0
  have y0 := HJ3.out.bi.out.free 0
  cases rr with
  | false =>
   have HN : Hid (¬ (Pr.mk m r b d).may) := fun h => by have := hrr.2 h; cases this
   have HE : Hid (En w (w2.setCell ⟨w.heap.size + 1, 0, none⟩ (.slice none 0 0)) (.slice none 0 0) []) := En.of HJ3.out.bi (Pw.zero _ _)
   have R0 : Hid (_ = _) := HE.out.cell
   clear hrr
   go_wp2_with fail
   exact bodyPost_ret (v := .tuple #[.agg #[.slice none 0 0], .int .i64 0, .int .i64 2]) (by simp [results, Tryz.results122, R0.out, go_sem]) rfl ⟨_, [], 0, 2, rfl, HE.out.pw, .inr (.inl ⟨HMY.out, HN.out, rfl, rfl, rfl⟩), HE.out.bel⟩
  | true =>
   have HPY : Hid ((Pr.mk m r b d).may) := hrr.1 rfl
   clear hrr z0 y0
   have p0 := HJ3.out.pr.cell 0
   have p1 := HJ3.out.pr.cell 1
   have p2 := HJ3.out.pr.cell 2
   have p3 := HJ3.out.pr.cell 3
   go_wp2_with fail
   refine (HOF.out _).mono ?_
   rintro e w3 ⟨rfl, hb3⟩
   have HJ4 : Hid (Bj w w3 a n cap l gp m r b d) := HJ3.out.next hb3
   have hlk := look_run (HM3.out.below hb3) m r b
   clear hb3 HJ3 HM3 p0 p1 p2 p3
   have c0 := HJ4.out.bi.bo.box.cell 0
   rcases find_or l m r b with ⟨i, hi⟩ | hno
   ·rw [look_at hi] at hlk
    simp only [Option.getD_some, Option.isSome_some] at hlk
    have HAT : Hid (∃ i, At l m r b i ∧ (l.getD i pr0).t = (l.getD i pr0).t) := ⟨i, hi, rfl⟩
    have HIS : Hid (IssueIs l m r b d l (l.getD i pr0).t 0) := .inr (.inr (.inl ⟨HMY.out, HPY.out, ⟨i, hi, rfl⟩, rfl, rfl⟩))
    clear hi HAT
    generalize (l.getD i pr0).t = pt at *
    go_wp2_with fail
    refine (HCL.out _ hn HJ4.out.bi.bo.row).mono ?_
    rintro e w4 ⟨v4, rfl, hp4, hb4⟩
    have HI5 : Hid (Bi w w4 a n cap l) := HJ4.out.bi.next hb4
    have hp5 : Pw w4 w.heap.size v4 l := hp4.low HJ4.out.bi.bo.bel.size
    obtain ⟨a4, k4, rfl, _⟩ := hp5.lies
    have HE : Hid (En w (w4.setCell ⟨w.heap.size + 1, 0, none⟩ (.slice a4 l.length k4)) (.slice a4 l.length k4) l) := En.of HI5.out hp5
    have R0 : Hid (_ = _) := HE.out.cell
    have z0 := HI5.out.out.cell 0
    have y0 := HI5.out.out.free 0
    clear hb4 hp4 hp5 HJ4 c0 hlk
    generalize l.length = ln at *
    go_wp2_with fail
    exact bodyPost_ret (v := .tuple #[.agg #[.slice a4 ln k4], .int .i64 pt, .int .i64 0]) (by simp [results, Tryz.results122, R0.out, go_sem]) rfl ⟨_, l, pt, 0, rfl, HE.out.pw, HIS.out, HE.out.bel⟩
   ·rw [look_no hno] at hlk
    simp only [Option.getD_none, Option.isSome_none] at hlk
    have HNO : Hid (No l m r b) := hno
    clear hno
    by_cases h5 : n = 500
    ·have hq : ((n : Int) == 500) = true := by simp; omega
     have HL5 : Hid (l.length = 500) := by rw [← h5]; exact HL.out
     have HE : Hid (En w (w3.setCell ⟨w.heap.size + 1, 0, none⟩ (.slice none 0 0)) (.slice none 0 0) []) := En.of HJ4.out.bi (Pw.zero _ _)
     have R0 : Hid (_ = _) := HE.out.cell
     have z0 := HJ4.out.bi.out.cell 0
     have y0 := HJ4.out.bi.out.free 0
     clear h5
     go_wp2_with fail
     exact bodyPost_ret (v := .tuple #[.agg #[.slice none 0 0], .int .i64 0, .int .i64 16]) (by simp [results, Tryz.results122, R0.out, go_sem]) rfl ⟨_, [], 0, 16, rfl, HE.out.pw, .inr (.inr (.inr (.inl ⟨HMY.out, HPY.out, HNO.out, HL5.out, rfl, rfl, rfl⟩))), HE.out.bel⟩
    ·have hq : ((n : Int) == 500) = false := by simp; omega
     have HL5 : Hid (l.length < 500) := by have := HL.out; show _ < _; omega
     have HLN : Hid (l.length ≤ 1000000) := by have := HL5.out; show _ ≤ _; omega
     have HIS : Hid (IssueIs l m r b d (l ++ [⟨m, r, b, d⟩]) d 0) := .inr (.inr (.inr (.inr ⟨HMY.out, HPY.out, HNO.out, HL5.out, rfl, rfl, rfl⟩)))
     obtain ⟨l2, hl2⟩ : ∃ l2, l2 = l ++ [Pr.mk m r b d] := ⟨_, rfl⟩
     have HL2 : Hid (l2 = l ++ [Pr.mk m r b d]) := hl2
     rw [← hl2] at HIS
     clear hl2
     have HJD : Hid (Bj w w3.drew a n cap l gp m r b d) := HJ4.out.drew 1
     have HRD : Hid (RowP w3.drew a n l) := HJD.out.bi.bo.row
     have HBD : Hid (Below w3.heap.size w3 w3.drew) := bel_drew (Below.refl _ _) 1
     have HJX : Hid (Bj w (w3.alloc (.cells #[.int .i64 m, .int .i64 r, .int .i64 b, .int .i64 d] 158)).drew a n cap l gp m r b d) := (HJ4.out.alloc _).drew 1
     have HRX : Hid (RowP (w3.alloc (.cells #[.int .i64 m, .int .i64 r, .int .i64 b, .int .i64 d] 158)).drew a n l) := HJX.out.bi.bo.row
     have HBX : Hid (Below w3.heap.size w3 (w3.alloc (.cells #[.int .i64 m, .int .i64 r, .int .i64 b, .int .i64 d] 158)).drew) := bel_drew ((Below.refl _ _).alloc (Nat.le_refl _) _) 1
     have HPX : Hid (PrAt (w3.alloc (.cells #[.int .i64 m, .int .i64 r, .int .i64 b, .int .i64 d] 158)).drew w3.heap.size 0 ⟨m, r, b, d⟩) := pr_cell w3 m r b d
     have HWW : Hid (w.heap.size ≤ w3.heap.size) := HJ4.out.bi.bo.bel.size
     have KD : Hid (w3.drew.cell? ⟨w.heap.size, 0, none⟩ = some (.slice a n cap) ∧ w3.drew.cell? ⟨gp, 0, none⟩ = some (.int .i64 m) ∧ w3.drew.cell? ⟨gp, 0 + 1, none⟩ = some (.int .i64 r) ∧ w3.drew.cell? ⟨gp, 0 + 2, none⟩ = some (.int .i64 b) ∧ w3.drew.cell? ⟨gp, 0 + 3, none⟩ = some (.int .i64 d)) := HJD.out.cells
     have KX : Hid ((w3.alloc (.cells #[.int .i64 m, .int .i64 r, .int .i64 b, .int .i64 d] 158)).drew.cell? ⟨w.heap.size, 0, none⟩ = some (.slice a n cap) ∧ (w3.alloc (.cells #[.int .i64 m, .int .i64 r, .int .i64 b, .int .i64 d] 158)).drew.cell? ⟨gp, 0, none⟩ = some (.int .i64 m) ∧ (w3.alloc (.cells #[.int .i64 m, .int .i64 r, .int .i64 b, .int .i64 d] 158)).drew.cell? ⟨gp, 0 + 1, none⟩ = some (.int .i64 r) ∧ (w3.alloc (.cells #[.int .i64 m, .int .i64 r, .int .i64 b, .int .i64 d] 158)).drew.cell? ⟨gp, 0 + 2, none⟩ = some (.int .i64 b) ∧ (w3.alloc (.cells #[.int .i64 m, .int .i64 r, .int .i64 b, .int .i64 d] 158)).drew.cell? ⟨gp, 0 + 3, none⟩ = some (.int .i64 d)) := HJX.out.cells
     clear h5
     go_wp2_with fail
     clear hlk hq c0
     go_region_held_law (fun v => v.cell? ⟨w.heap.size, 0, none⟩ = some (.slice a n cap) ∧ v.cell? ⟨gp, 0, none⟩ = some (.int .i64 m) ∧ v.cell? ⟨gp, 0 + 1, none⟩ = some (.int .i64 r) ∧ v.cell? ⟨gp, 0 + 2, none⟩ = some (.int .i64 b) ∧ v.cell? ⟨gp, 0 + 3, none⟩ = some (.int .i64 d))
      (first | with_reducible exact KD.out | with_reducible exact KX.out | with_reducible exact K5.out | with_reducible exact K6.out | with_reducible exact K7.out | with_reducible exact K8.out)
      (first
       | (go_at_call 141; refine (HCL.out _ hn (by with_reducible exact HRD.out)).mono ?_; rintro e w5 ⟨v5, rfl, hp5, hb5⟩
          have HB5 := shB HBD hb5
          have HB6 : Hid (Below w3.heap.size w3 (w5.alloc (.cells #[.int .i64 m, .int .i64 r, .int .i64 b, .int .i64 d] 158))) := HB5.out.alloc HB5.out.size _
          have K5 : Hid (w5.cell? ⟨w.heap.size, 0, none⟩ = some (.slice a n cap) ∧ w5.cell? ⟨gp, 0, none⟩ = some (.int .i64 m) ∧ w5.cell? ⟨gp, 0 + 1, none⟩ = some (.int .i64 r) ∧ w5.cell? ⟨gp, 0 + 2, none⟩ = some (.int .i64 b) ∧ w5.cell? ⟨gp, 0 + 3, none⟩ = some (.int .i64 d)) := (HJ4.out.next HB5.out).cells
          have K6 : Hid ((w5.alloc (.cells #[.int .i64 m, .int .i64 r, .int .i64 b, .int .i64 d] 158)).cell? ⟨w.heap.size, 0, none⟩ = some (.slice a n cap) ∧ (w5.alloc (.cells #[.int .i64 m, .int .i64 r, .int .i64 b, .int .i64 d] 158)).cell? ⟨gp, 0, none⟩ = some (.int .i64 m) ∧ (w5.alloc (.cells #[.int .i64 m, .int .i64 r, .int .i64 b, .int .i64 d] 158)).cell? ⟨gp, 0 + 1, none⟩ = some (.int .i64 r) ∧ (w5.alloc (.cells #[.int .i64 m, .int .i64 r, .int .i64 b, .int .i64 d] 158)).cell? ⟨gp, 0 + 2, none⟩ = some (.int .i64 b) ∧ (w5.alloc (.cells #[.int .i64 m, .int .i64 r, .int .i64 b, .int .i64 d] 158)).cell? ⟨gp, 0 + 3, none⟩ = some (.int .i64 d)) := (HJ4.out.next HB6.out).cells
          have HP6 : Hid (Pw (w5.alloc (.cells #[.int .i64 m, .int .i64 r, .int .i64 b, .int .i64 d] 158)) w3.heap.size v5 l) := Pw.alloc hp5 _
          have HPA : Hid (PrAt (w5.alloc (.cells #[.int .i64 m, .int .i64 r, .int .i64 b, .int .i64 d] 158)) w5.heap.size 0 ⟨m, r, b, d⟩) := pr_cell w5 m r b d
          have HSZ : Hid (w3.heap.size ≤ (w5.alloc (.cells #[.int .i64 m, .int .i64 r, .int .i64 b, .int .i64 d] 158)).heap.size) := HB6.out.size
          clear hp5 hb5)
       | (go_at_call 141; refine (HCL.out _ hn (by with_reducible exact HRX.out)).mono ?_; rintro e w5 ⟨v5, rfl, hp5, hb5⟩
          have HB6 := shB HBX hb5
          have K6 : Hid (w5.cell? ⟨w.heap.size, 0, none⟩ = some (.slice a n cap) ∧ w5.cell? ⟨gp, 0, none⟩ = some (.int .i64 m) ∧ w5.cell? ⟨gp, 0 + 1, none⟩ = some (.int .i64 r) ∧ w5.cell? ⟨gp, 0 + 2, none⟩ = some (.int .i64 b) ∧ w5.cell? ⟨gp, 0 + 3, none⟩ = some (.int .i64 d)) := (HJ4.out.next HB6.out).cells
          have HP6 : Hid (Pw w5 w3.heap.size v5 l) := hp5.low HBX.out.size
          have HPB : Hid (PrAt w5 w3.heap.size 0 ⟨m, r, b, d⟩) := HPX.out.below hb5
          have HSZ : Hid (w3.heap.size ≤ w5.heap.size) := HB6.out.size
          clear hp5 hb5)
       | (first
         | refine step_pr rfl _ _ rfl w3.heap.size w5.heap.size _ l ⟨m, r, b, d⟩ rfl rfl HP6.out HPA.out HLN.out HSZ.out ?_
         | refine step_pr rfl _ _ rfl w3.heap.size w3.heap.size _ l ⟨m, r, b, d⟩ rfl rfl HP6.out HPB.out HLN.out HSZ.out ?_
          intro v7 w7 hp7 hg7
          have hB7 : Below w3.heap.size w3 w7 := pown_bel HP6.out hg7 HB6.out (Nat.le_refl _) HSZ.out
          have HJ7 : Hid (Bj w w7 a n cap l gp m r b d) := HJ4.out.next hB7
          have hp8 : Pw w7 w.heap.size v7 l2 := by rw [HL2.out]; exact hp7.low HWW.out
          obtain ⟨a7, k7, rfl, _⟩ := hp8.lies
          have HE : Hid (En w (w7.setCell ⟨w.heap.size + 1, 0, none⟩ (.slice a7 l2.length k7)) (.slice a7 l2.length k7) l2) := En.of HJ7.out.bi hp8
          have K7 : Hid (w7.cell? ⟨w.heap.size, 0, none⟩ = some (.slice a n cap) ∧ w7.cell? ⟨gp, 0, none⟩ = some (.int .i64 m) ∧ w7.cell? ⟨gp, 0 + 1, none⟩ = some (.int .i64 r) ∧ w7.cell? ⟨gp, 0 + 2, none⟩ = some (.int .i64 b) ∧ w7.cell? ⟨gp, 0 + 3, none⟩ = some (.int .i64 d)) := HJ7.out.cells
          have K8 : Hid ((w7.setCell ⟨w.heap.size + 1, 0, none⟩ (.slice a7 l2.length k7)).cell? ⟨w.heap.size, 0, none⟩ = some (.slice a n cap) ∧ (w7.setCell ⟨w.heap.size + 1, 0, none⟩ (.slice a7 l2.length k7)).cell? ⟨gp, 0, none⟩ = some (.int .i64 m) ∧ (w7.setCell ⟨w.heap.size + 1, 0, none⟩ (.slice a7 l2.length k7)).cell? ⟨gp, 0 + 1, none⟩ = some (.int .i64 r) ∧ (w7.setCell ⟨w.heap.size + 1, 0, none⟩ (.slice a7 l2.length k7)).cell? ⟨gp, 0 + 2, none⟩ = some (.int .i64 b) ∧ (w7.setCell ⟨w.heap.size + 1, 0, none⟩ (.slice a7 l2.length k7)).cell? ⟨gp, 0 + 3, none⟩ = some (.int .i64 d)) := HJ7.out.put _
          have z0 := HJ7.out.bi.out.cell 0
          have y0 := HJ7.out.bi.out.free 0
          have R0 : Hid (_ = _) := HE.out.cell
          clear hp7 hg7 hB7 hp8
          generalize l2.length = ln at *))
     all_goals go_wp2_with fail
     all_goals exact bodyPost_ret (v := .tuple #[.agg #[.slice a7 ln k7], .int .i64 d, .int .i64 0]) (by simp [results, Tryz.results122, R0.out, go_sem]) rfl ⟨_, l2, d, 0, rfl, HE.out.pw, HIS.out, HE.out.bel⟩
 ·have HI1 : Hid (Bi w w1 a n cap l) := HB0.out.next hb1
  have HN : Hid (¬ May l) := hm
  have HE : Hid (En w (w1.setCell ⟨w.heap.size + 1, 0, none⟩ (.slice none 0 0)) (.slice none 0 0) []) := En.of HI1.out (Pw.zero _ _)
  have R0 : Hid (_ = _) := HE.out.cell
  have z0 := HI1.out.out.cell 0
  have y0 := HI1.out.out.free 0
  clear hb1 hm HB0 c0
  go_wp2_with fail
  exact bodyPost_ret (v := .tuple #[.agg #[.slice none 0 0], .int .i64 0, .int .i64 5]) (by simp [results, Tryz.results122, R0.out, go_sem]) rfl ⟨_, [], 0, 5, rfl, HE.out.pw, .inl ⟨HN.out, rfl, rfl, rfl⟩, HE.out.bel⟩
end ora
namespace disk
open Go.RowKit cell
theorem make_wr (m:Nat) (h:m≤100000) (w:World):(Instr.makeSlice 46 (zI 0) (zI ((m:Int)+2))).run Tryz.prog w = .ok (.slice (some ⟨w.heap.size,0,none⟩) 0 (m+2)) (w.alloc (.cells (madeCells (Value.agg #[zI 0,.int .u32 0]).cells ((m+2)*2)) 118)):=by
 obtain ⟨i0,hi,hz0,hz1,hz2⟩:=info_parts info_wr;have:=run_make (P:=Tryz.prog) w 46 118 i0 (.agg #[zI 0,.int .u32 0]) Tryz.underlying46 hi hz0 .i64 .i64 0 ((m:Int)+2) (by omega) (by omega) (by rw [hz2];omega) (by omega);rw [hz1,show ((m:Int)+2).toNat=m+2 by omega] at this;exact this
theorem put_next2 (p k:Nat) (r:List Int):putW p r k++[⟨(p:Int)+1+(k:Int),r.getD k 0⟩]=putW p r (k+1):=by
 rw [putW,show ((p+k+1:Nat):Int)=(p:Int)+1+(k:Int) by omega]
theorem app_yes2 {c:List Int} {p k:Nat} {r:List Int} (hk:r.length=k) (h:p+k+1<c.length):putW p r k++[⟨(p:Int)+1+(k:Int),0⟩]++[⟨(p:Int),(k:Int)⟩]=appW c p r:=by
 subst hk;rw [← app_yes h,show (p:Int)+1+(r.length:Int)=(p:Int)+(r.length:Int)+1 by omega]
theorem app_no2 {c:List Int} {p k:Nat} {r:List Int} (hk:r.length=k) (h:¬ p+k+1<c.length):putW p r k++[⟨(p:Int),(k:Int)⟩]=appW c p r:=by
 subst hk;exact app_no h
theorem laying_any (a:Option Addr) (m cap2:Nat) (r c:List Int) (p n:Nat) (w:World) (h:RowU w a m r) (h1:1≤m) (h2:m≤64) (hp:p≤2048) (hn:n≤2048) (hc:c.length=n) :
  Calls Tryz.prog 108 #[.slice a m cap2,zI (p:Int),zI (n:Int)] w fun e w'=>∃ V,e = .returned V∧Lw w' w.heap.size V (appW c p r)∧Below w.heap.size w w':=by
 obtain ⟨b,o,rfl,lb,hcl⟩:=h.at (by omega);have HCL:Hid (∀ W,Below w.heap.size w W→∀ j,j<m→W.cell? ⟨b,o+j,none⟩=some (.int .u32 (r.getD j 0))):=fun W hB j hj=>(hB.cell (p:=⟨b,o+j,none⟩) lb).trans (hcl j hj);have HN:Hid (c.length=n∧r.length=m):=⟨hc,h.1⟩
 have hmk:=make_wr m (by omega) w;have HL0:Hid (Lw (w.alloc (.cells (madeCells (Value.agg #[zI 0,.int .u32 0]).cells ((m+2)*2)) 118)) w.heap.size (.slice (some ⟨w.heap.size,0,none⟩) 0 (m+2)) []):=World.ownsRow_made w _ (m+2) (Nat.le_refl _) (by unfold maxLen;omega) (size_madeCells _ _);have HB0:Hid (Below w.heap.size w (w.alloc (.cells (madeCells (Value.agg #[zI 0,.int .u32 0]).cells ((m+2)*2)) 118))):=(Below.refl _ _).alloc (Nat.le_refl _) _;clear h hc hcl lb;generalize (w.alloc (.cells (madeCells (Value.agg #[zI 0,.int .u32 0]).cells ((m+2)*2)) 118))=W0 at *;go_enter Tryz.func108,Tryz.ntmps108;go_wp2_with fail;clear hmk;go_loopw [7,8,19] (fun v7 v8 v19 wr=>∃ (k:Nat) (V:Value),k≤m∧V=v7∧v8=zI ((p:Int)+1+(k:Int))∧v19=zI (k:Int)∧Lw wr w.heap.size V (putW p r k)∧Below w.heap.size w wr) (fun _ _ v19 _=>m - (intOf v19).toNat)
 case atStart=>exact ⟨0,_,Nat.zero_le _,rfl,by go_num,rfl,HL0.o,HB0.o⟩
 case round=>
  obtain ⟨k,V,hk,hV,rfl,rfl,hlw,hbl⟩:=hrel;subst hV;have HBL:Hid (Below w.heap.size w wr):=hbl;have hs6:(putW p r k).length≤1000000:=by rw [put_len];omega
  have HUA:Hid (∀ o,Lw (wr.alloc o) w.heap.size V (putW p r k)):=fun o=>hlw.alloc o;have HBA:Hid (∀ o,Below w.heap.size w (wr.alloc o)):=fun o=>hbl.alloc hbl.size o;have HSA:Hid (∀ o,w.heap.size≤(wr.alloc o).heap.size):=fun o=>(hbl.alloc hbl.size o).size;clear hlw hbl HL0 HB0;by_cases hkm:k<m
  ·have k2:=HCL.o wr HBL.o k hkm;have HPN:Hid (putW p r k++[⟨(p:Int)+1+(k:Int),r.getD k 0⟩]=putW p r (k+1)):=put_next2 p k r;generalize r.getD k 0=u at *;go_wp2_with (first | (refine wp_write rfl _ _ rfl w.heap.size wr.heap.size V (putW p r k) ⟨(p:Int)+1+(k:Int),u⟩ rfl rfl (HUA.o _) ⟨(Blk.new wr _ _).cell 0,(Blk.new wr _ _).cell 1⟩ hs6 (HSA.o _) ?_;intro v3 w3 h3 hg3;have hb3:=own_bel (HUA.o _) hg3 (HBA.o _) (Nat.le_refl _) (HSA.o _);have H3:Hid (Lw w3 w.heap.size v3 (putW p r k++[(⟨(p:Int)+1+(k:Int),u⟩:Wr)])):=h3;have HB3:Hid (Below w.heap.size w w3):=hb3;clear h3 hg3 hb3) | fail)
   go_roundw
   case rel=>exact ⟨k+1,v3,by omega,rfl,by go_num,by go_num,by rw [← HPN.o];exact H3.o,HB3.o⟩
   case measure=>simp [intOf];omega
  ·obtain rfl:k=m:=by omega
   by_cases hz:(p:Int)+1+(k:Int)<(n:Int)
   ·have HQ:Hid (putW p r k++[⟨(p:Int)+1+(k:Int),0⟩]++[⟨(p:Int),(k:Int)⟩]=appW c p r):=app_yes2 HN.o.2 (by rw [HN.o.1];omega);have hs7:(putW p r k++[(⟨(p:Int)+1+(k:Int),0⟩:Wr)]).length≤1000000:=by rw [List.length_append,put_len];simp;omega
    go_upto_region 11 with (first | (refine wp_write rfl _ _ rfl w.heap.size wr.heap.size V (putW p r k) ⟨(p:Int)+1+(k:Int),0⟩ rfl rfl (HUA.o _) ⟨(Blk.new wr _ _).cell 0,(Blk.new wr _ _).cell 1⟩ hs6 (HSA.o _) ?_;intro v3 w3 h3 hg3;have hb3:=own_bel (HUA.o _) hg3 (HBA.o _) (Nat.le_refl _) (HSA.o _);have H3:Hid (Lw w3 w.heap.size v3 (putW p r k++[(⟨(p:Int)+1+(k:Int),0⟩:Wr)])):=h3;have HB3:Hid (Below w.heap.size w w3):=hb3;clear h3 hg3 hb3) | fail)
    have HU3:Hid (∀ o,Lw (w3.alloc o) w.heap.size v3 (putW p r k++[(⟨(p:Int)+1+(k:Int),0⟩:Wr)])):=fun o=>H3.o.alloc o;have HBB:Hid (∀ o,Below w.heap.size w (w3.alloc o)):=fun o=>HB3.o.alloc HB3.o.size o;have HS3:Hid (∀ o,w.heap.size≤(w3.alloc o).heap.size):=fun o=>(HB3.o.alloc HB3.o.size o).size;clear HUA HBA HSA HBL H3 HB3;go_wp2_with (first | (refine wp_write rfl _ _ rfl w.heap.size w3.heap.size v3 (putW p r k++[(⟨(p:Int)+1+(k:Int),0⟩:Wr)]) ⟨(p:Int),(k:Int)⟩ rfl rfl (HU3.o _) ⟨(Blk.new w3 _ _).cell 0,(Blk.new w3 _ _).cell 1⟩ hs7 (HS3.o _) ?_;intro v4 w4 h3 hg3;have hb3:=own_bel (HU3.o _) hg3 (HBB.o _) (Nat.le_refl _) (HS3.o _);have H4:Hid (Lw w4 w.heap.size v4 (putW p r k++[(⟨(p:Int)+1+(k:Int),0⟩:Wr)]++[(⟨(p:Int),(k:Int)⟩:Wr)])):=h3;have HB4:Hid (Below w.heap.size w w4):=hb3;clear h3 hg3 hb3) | fail)
    go_ret;exact ⟨v4,rfl,by rw [← HQ.o];exact H4.o,HB4.o⟩
   ·have HQ:Hid (putW p r k++[⟨(p:Int),(k:Int)⟩]=appW c p r):=app_no2 HN.o.2 (by rw [HN.o.1];omega);go_wp2_with (first | (refine wp_write rfl _ _ rfl w.heap.size wr.heap.size V (putW p r k) ⟨(p:Int),(k:Int)⟩ rfl rfl (HUA.o _) ⟨(Blk.new wr _ _).cell 0,(Blk.new wr _ _).cell 1⟩ hs6 (HSA.o _) ?_;intro v4 w4 h3 hg3;have hb3:=own_bel (HUA.o _) hg3 (HBA.o _) (Nat.le_refl _) (HSA.o _);have H4:Hid (Lw w4 w.heap.size v4 (putW p r k++[(⟨(p:Int),(k:Int)⟩:Wr)])):=h3;have HB4:Hid (Below w.heap.size w w4):=hb3;clear h3 hg3 hb3) | fail)
    go_ret;exact ⟨v4,rfl,by rw [← HQ.o];exact H4.o,HB4.o⟩
end disk
end Go.Proofs.YtdpfnedfakgolaaGreatDoor
