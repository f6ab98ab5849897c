import Derived.Test.YtdpfnedfakgolaaGreatDoorVVRnt5
import Derived.Test.YtdpfnedfakgolaaGreatDoorVVRnt6
import Derived.Test.YtdpfnedfakgolaaGreatDoorVVRnt7
set_option linter.unusedVariables false
set_option linter.unusedSimpArgs false
set_option maxHeartbeats 4000000
set_option maxRecDepth 100000
namespace Go.Proofs.YtdpfnedfakgolaaGreatDoor
namespace tar
theorem getD_snoc (Z:List Du) (r:Du) (i:Nat):(Z++[r]).getD i du0=if i<Z.length then Z.getD i du0 else if i=Z.length then r else du0:=by
 by_cases h:i<Z.length
 ·rw [if_pos h];simp [List.getD,List.getElem?_append_left h]
 ·rw [if_neg h];by_cases h2:i=Z.length
  ·subst h2;simp [List.getD]
  ·rw [if_neg h2];have:(Z++[r])[i]?=none:=List.getElem?_eq_none (by simp;omega);simp [List.getD,this]
structure Grow (Z:List Du) (k:Nat) (up:Int):Prop where
 len:Z.length=k
 fit:∀ i,i<k→(1≤(Z.getD i du0).a∧(Z.getD i du0).a≤up)∧1≤(Z.getD i du0).b∧(Z.getD i du0).b≤100000
 rise:∀ i,1≤i→i<k→(Z.getD (i - 1) du0).a<(Z.getD i du0).a
 low:0≤up
 top:up≤(k:Int)*1000000
theorem Grow.zero:Grow [] 0 0:=⟨rfl,fun i hi=>absurd hi (Nat.not_lt_zero _),fun i _ hi=>absurd hi (Nat.not_lt_zero _),by decide,by decide⟩
theorem Grow.step {Z:List Du} {k:Nat} {up d p:Int} (h:Grow Z k up) (d1:1≤d) (d2:d≤1000000) (p1:1≤p) (p2:p≤100000):Grow (Z++[⟨up+d,p⟩]) (k+1) (up+d):=by
 have h0:=h.low;refine ⟨by rw [List.length_append,h.len];rfl,fun i hi=>?_,fun i h1 hi=>?_,by omega,?_⟩
 ·rw [getD_snoc,h.len];by_cases e:i<k
  ·rw [if_pos e];have:=h.fit i e;exact ⟨⟨this.1.1,by omega⟩,this.2⟩
  ·rw [if_neg e,if_pos (by omega)];exact ⟨⟨by show 1≤up+d;omega,Int.le_refl _⟩,p1,p2⟩
 ·rw [getD_snoc,getD_snoc,h.len];by_cases e:i<k
  ·rw [if_pos (by omega),if_pos e];exact h.rise i h1 e
  ·rw [if_pos (by omega),if_neg e,if_pos (by omega)];have:=(h.fit (i - 1) (by omega)).1.2;show _<up+d;omega
 ·have:=h.top;omega
theorem Grow.right {Z:List Du} {k:Nat} {up p:Int} (h:Grow Z k up) (hk:k≤7) (p1:1≤p) (p2:p≤100000):Right (Z++[⟨10000000,p⟩]):=by
 have h0:=h.low;have h1:=h.top;have hl:(Z++[(⟨10000000,p⟩:Du)]).length=k+1:=by rw [List.length_append,h.len];rfl
 refine ⟨⟨by rw [hl];omega,by rw [hl];omega⟩,fun i hi=>?_,fun i h1 hi=>?_,?_⟩
 ·rw [hl] at hi;rw [getD_snoc,h.len];by_cases e:i<k
  ·rw [if_pos e];have:=h.fit i e;exact ⟨⟨this.1.1,by omega⟩,this.2⟩
  ·rw [if_neg e,if_pos (by omega)];exact ⟨⟨(by decide:(1:Int)≤10000000),Int.le_refl _⟩,p1,p2⟩
 ·rw [hl] at hi;rw [getD_snoc,getD_snoc,h.len];by_cases e:i<k
  ·rw [if_pos (by omega),if_pos e];exact h.rise i h1 e
  ·rw [if_pos (by omega),if_neg e,if_pos (by omega)];have:=(h.fit (i - 1) (by omega)).1.2;show _<(10000000:Int);omega
 ·unfold Ends;rw [hl,show k+1 - 1=k by omega,getD_snoc,h.len,if_neg (by omega),if_pos rfl]
end tar
namespace token
def hasI (lo hi n:Int):Bool:=decide (lo≤n) && decide (n≤hi)
def amLo (c:Int):Int:=if c=0 then 1 else if c=1 then 0 else if c=2 then 1 else 0
def amHi (c:Int):Int:=if c=0 then 2097151 else if c=1 then 0 else if c=2 then 15 else 0
def flawT (c i a t:Int):Int:=if c<0∨3<c then 9 else if hasI 1 1048575 i && (hasI (amLo c) (amHi c) a && hasI 0 65535 t) then 0 else 2
theorem flawT_class {c i a t:Int} (h:c<0∨3<c):flawT c i a t=9:=by unfold flawT;rw [if_pos h]
theorem flawT_in {c i a t:Int} (h:¬ (c<0∨3<c)):flawT c i a t=if hasI 1 1048575 i && (hasI (amLo c) (amHi c) a && hasI 0 65535 t) then 0 else 2:=by unfold flawT;rw [if_neg h]
theorem flaw_tok {k:Tok}:flawT k.c k.i k.a k.t=0↔k.ok:=by
 rw [← okB_ok];unfold flawT okB hasI amLo amHi;rcases (by omega:k.c=0∨k.c=1∨k.c=2∨k.c=3∨4≤k.c) with h | h | h | h | h
 ·simp [h];omega
 ·simp [h];omega
 ·simp [h];omega
 ·simp [h];omega
 ·have h1:(3:Int)<(k.c:Int):=by omega
  have h2:¬ k.c≤3:=by omega
  simp [h1,h2]
open Go.RowKit
theorem Eight.cell {w:World} {g:Nat} {a0 a1 a2 a3 a4 a5 a6 a7:Int} (h:Eight w g a0 a1 a2 a3 a4 a5 a6 a7) :
  w.cell? ⟨g,0,none⟩=some (zI a0)∧w.cell? ⟨g,1,none⟩=some (zI a1)∧w.cell? ⟨g,2,none⟩=some (zI a2)∧w.cell? ⟨g,3,none⟩=some (zI a3) ∧
  w.cell? ⟨g,4,none⟩=some (zI a4)∧w.cell? ⟨g,5,none⟩=some (zI a5)∧w.cell? ⟨g,6,none⟩=some (zI a6)∧w.cell? ⟨g,7,none⟩=some (zI a7):=by
 obtain ⟨t,fr,h⟩:=h;simp [World.cell?,h]
theorem has_any (lo hi n:Int) (w:World) :
  Calls Tryz.prog 58 #[.agg #[zI lo,zI hi],zI n] w fun e w'=>e = .returned (.bool (hasI lo hi n))∧Below w.heap.size w w':=by
 have hb:Below w.heap.size w (w.alloc (.cells #[zI lo,zI hi] 151)):=(Below.refl _ _).alloc (Nat.le_refl _) _;by_cases h:lo≤n
 ·have e:hasI lo hi n=decide (n≤hi):=by simp [hasI,h]
  rw [e];go_enter Tryz.func58,Tryz.ntmps58;go_wp2;go_ret;exact ⟨rfl,hb⟩
 ·have e:hasI lo hi n=false:=by simp [hasI,h]
  have h':n<lo:=by omega
  rw [e];go_enter Tryz.func58,Tryz.ntmps58;go_wp2;go_ret;exact ⟨rfl,hb⟩
end token
namespace ora
open Go.RowKit
theorem of_any (m r b t:Int) (w:World) :
  Calls Tryz.prog 63 #[.agg #[zI m,zI r,zI b,zI t]] w fun e w'=>e = .returned (.agg #[zI m,zI r,zI b])∧Below w.heap.size w w':=by
 have hN:=(Blk.new w #[zI m,zI r,zI b,zI t] 158).alloc (.cells #[zI 0,zI 0,zI 0] 106);have c0:=hN.cell 0;have c1:=hN.cell 1;have c2:=hN.cell 2;have hM:=Blk.new1 w (.cells #[zI m,zI r,zI b,zI t] 158) #[zI 0,zI 0,zI 0] 106;have HM:Hid (Blk _ _ _ _):=hM;have HB:Hid (Below w.heap.size w ((w.alloc (.cells #[zI m,zI r,zI b,zI t] 158)).alloc (.cells #[zI 0,zI 0,zI 0] 106))):=((Below.refl _ _).alloc (Nat.le_refl _) _).alloc (by simp) _;clear hN hM;go_enter Tryz.func63,Tryz.ntmps63
 go_wp2_with (first
  | (refine wp_letAll rfl 106 _ _ rfl (w.heap.size+1) rfl _ rfl (by kernel_rfl) (by simp [Value.oneCell']) _ _ HM.o rfl ?_;intro W hu)
  | fail)
 have d0:=hu.blk.cell 0;have d1:=hu.blk.cell 1;have d2:=hu.blk.cell 2;have HBB:=shV hu HB (by omega);clear hu HM HB c0 c1 c2;go_wp2_with fail;exact bodyPost_ret (v:= .agg #[zI m,zI r,zI b]) (by simp [results,Tryz.results63,d0,d1,d2,go_sem]) rfl ⟨rfl,HBB.o⟩
theorem within_any (m r b t:Int) (w:World) :
  Calls Tryz.prog 64 #[.agg #[zI m,zI r,zI b,zI t]] w fun e w'=>Told w (Pr.mk m r b t).may e w':=by
 have hN:=Blk.new w #[zI m,zI r,zI b,zI t] 158;have c0:=hN.cell 0;have c1:=hN.cell 1;have c2:=hN.cell 2;have c3:=hN.cell 3;have HB:Hid (Below w.heap.size w (w.alloc (.cells #[zI m,zI r,zI b,zI t] 158))):=(Below.refl _ _).alloc (Nat.le_refl _) _;clear hN;by_cases h0:0≤m
 ·skip
  by_cases h1:m<50
  ·skip
   by_cases h2:0≤r
   ·skip
    by_cases h3:r≤15
    ·skip
     by_cases h4:0≤b
     ·skip
      by_cases h5:b≤8796093022207
      ·skip
       by_cases h6:0≤t
       ·skip
        by_cases h7:t≤65535
        ·skip
         have HF:Hid ((Pr.mk m r b t).may):=⟨⟨h0,by show m≤49;omega⟩,⟨h2,h3⟩,⟨h4,h5⟩,⟨h6,h7⟩⟩
         have q0:decide (0≤m)=true:=by simp;omega
         have q1:decide (m<50)=true:=by simp;omega
         have q2:decide (0≤r)=true:=by simp;omega
         have q3:decide (r≤15)=true:=by simp;omega
         have q4:decide (0≤b)=true:=by simp;omega
         have q5:decide (b≤8796093022207)=true:=by simp;omega
         have q6:decide (0≤t)=true:=by simp;omega
         have q7:decide (t≤65535)=true:=by simp;omega
         clear h0 h1 h2 h3 h4 h5 h6 h7;go_enter Tryz.func64,Tryz.ntmps64;go_wp2_with fail;go_ret;exact Told.yes HF.o HB.o
        ·have q7:decide (t≤65535)=false:=by simp;omega
         have HF:Hid (¬ (Pr.mk m r b t).may):=fun h=>by unfold Pr.may at h;simp only at h;omega
         have q0:decide (0≤m)=true:=by simp;omega
         have q1:decide (m<50)=true:=by simp;omega
         have q2:decide (0≤r)=true:=by simp;omega
         have q3:decide (r≤15)=true:=by simp;omega
         have q4:decide (0≤b)=true:=by simp;omega
         have q5:decide (b≤8796093022207)=true:=by simp;omega
         have q6:decide (0≤t)=true:=by simp;omega
         clear h0 h1 h2 h3 h4 h5 h6 h7;go_enter Tryz.func64,Tryz.ntmps64;go_wp2_with fail;go_ret;exact Told.no HF.o HB.o
       ·have q6:decide (0≤t)=false:=by simp;omega
        have HF:Hid (¬ (Pr.mk m r b t).may):=fun h=>by unfold Pr.may at h;simp only at h;omega
        have q0:decide (0≤m)=true:=by simp;omega
        have q1:decide (m<50)=true:=by simp;omega
        have q2:decide (0≤r)=true:=by simp;omega
        have q3:decide (r≤15)=true:=by simp;omega
        have q4:decide (0≤b)=true:=by simp;omega
        have q5:decide (b≤8796093022207)=true:=by simp;omega
        clear h0 h1 h2 h3 h4 h5 h6;go_enter Tryz.func64,Tryz.ntmps64;go_wp2_with fail;go_ret;exact Told.no HF.o HB.o
      ·have q5:decide (b≤8796093022207)=false:=by simp;omega
       have HF:Hid (¬ (Pr.mk m r b t).may):=fun h=>by unfold Pr.may at h;simp only at h;omega
       have q0:decide (0≤m)=true:=by simp;omega
       have q1:decide (m<50)=true:=by simp;omega
       have q2:decide (0≤r)=true:=by simp;omega
       have q3:decide (r≤15)=true:=by simp;omega
       have q4:decide (0≤b)=true:=by simp;omega
       clear h0 h1 h2 h3 h4 h5;go_enter Tryz.func64,Tryz.ntmps64;go_wp2_with fail;go_ret;exact Told.no HF.o HB.o
     ·have q4:decide (0≤b)=false:=by simp;omega
      have HF:Hid (¬ (Pr.mk m r b t).may):=fun h=>by unfold Pr.may at h;simp only at h;omega
      have q0:decide (0≤m)=true:=by simp;omega
      have q1:decide (m<50)=true:=by simp;omega
      have q2:decide (0≤r)=true:=by simp;omega
      have q3:decide (r≤15)=true:=by simp;omega
      clear h0 h1 h2 h3 h4;go_enter Tryz.func64,Tryz.ntmps64;go_wp2_with fail;go_ret;exact Told.no HF.o HB.o
    ·have q3:decide (r≤15)=false:=by simp;omega
     have HF:Hid (¬ (Pr.mk m r b t).may):=fun h=>by unfold Pr.may at h;simp only at h;omega
     have q0:decide (0≤m)=true:=by simp;omega
     have q1:decide (m<50)=true:=by simp;omega
     have q2:decide (0≤r)=true:=by simp;omega
     clear h0 h1 h2 h3;go_enter Tryz.func64,Tryz.ntmps64;go_wp2_with fail;go_ret;exact Told.no HF.o HB.o
   ·have q2:decide (0≤r)=false:=by simp;omega
    have HF:Hid (¬ (Pr.mk m r b t).may):=fun h=>by unfold Pr.may at h;simp only at h;omega
    have q0:decide (0≤m)=true:=by simp;omega
    have q1:decide (m<50)=true:=by simp;omega
    clear h0 h1 h2;go_enter Tryz.func64,Tryz.ntmps64;go_wp2_with fail;go_ret;exact Told.no HF.o HB.o
  ·have q1:decide (m<50)=false:=by simp;omega
   have HF:Hid (¬ (Pr.mk m r b t).may):=fun h=>by unfold Pr.may at h;simp only at h;omega
   have q0:decide (0≤m)=true:=by simp;omega
   clear h0 h1;go_enter Tryz.func64,Tryz.ntmps64;go_wp2_with fail;go_ret;exact Told.no HF.o HB.o
 ·have q0:decide (0≤m)=false:=by simp;omega
  have HF:Hid (¬ (Pr.mk m r b t).may):=fun h=>by unfold Pr.may at h;simp only at h;omega
  clear h0;go_enter Tryz.func64,Tryz.ntmps64;go_wp2_with fail;go_ret;exact Told.no HF.o HB.o
end ora
namespace book
open Go.RowKit
open Go.ChangeMaps (setBlock heap_setBlock_same heap_setBlock_other)
def entI (m:Int) (i:Nat):MapEntry:={ key:=zI m,val:=zI (i:Int),born:=i }
def entsI:List Int→Nat→List MapEntry
 | [],_=>[]
 | p :: l,i=>entI p i :: entsI l (i+1)
theorem entsI_app (l:List Int) (p:Int) (i:Nat):entsI (l++[p]) i=entsI l i++[entI p (i+l.length)]:=by
 induction l generalizing i with
 | nil=>rfl
 | cons x l ih=>simp only [List.cons_append,entsI,ih,List.length_cons];rw [show i+1+l.length=i+(l.length+1) by omega]
def MpI (w:World) (B:Nat) (l:List Int):Prop:=w.heap[B]?=some (.map (entsI l 0).toArray l.length)
theorem MpI.lt {w:World} {B:Nat} {l:List Int} (h:MpI w B l):B<w.heap.size:=by
 unfold MpI at h;by_cases hh:B<w.heap.size
 ·exact hh
 ·rw [Array.getElem?_eq_none (by omega)] at h;cases h
theorem MpI.below {w w':World} {B:Nat} {l:List Int} (h:MpI w B l) (hb:Below w.heap.size w w'):MpI w' B l:=by
 have hl:=h.lt;unfold MpI at *;rw [hb.block B hl];exact h
theorem MpI.upd {w W:World} {B g:Nat} {cs:Array Value} {t:TypeId} {l:List Int} (h:MpI w B l) (hU:Upd w W g cs t) (hne:B≠g):MpI W B l:=by
 unfold MpI at *;rw [hU.oth B hne];exact h
theorem MpI.new (w:World):MpI (w.alloc (.map #[] 0)) w.heap.size []:=by
 show (w.heap.push _)[w.heap.size]?=_;rw [Array.getElem?_push_size];rfl
def firstI:List Int→Int→Option Nat
 | [],_=>none
 | m :: l,x=>if x=m then some 0 else (firstI l x).map (·+1)
theorem findingI (x:Int):∀ (l:List Int) (i j:Nat),Instr.findNow (.int .i64) (zI x) (entsI l i) j=some ((firstI l x).map fun k=>(j+k,Value.int .i64 ((i+k:Nat):Int)))
 | [],i,j=>rfl
 | m :: l,i,j=>by
  have ih:=findingI x l (i+1) (j+1);unfold firstI;by_cases h:x=m
  ·subst h;simp [entsI,entI,Instr.findNow,Instr.sameNow]
  ·have hb:(x == m)=false:=by simpa using h
   rw [if_neg h];simp only [entsI,entI,Instr.findNow,Instr.sameNow,if_true,hb];rw [ih];cases firstI l x with
   | none=>rfl
   | some k=>simp [show j+1+k=j+(k+1) by omega,show i+1+k=i+(k+1) by omega];omega
theorem zintI (w:World):(zeroValue 3).run Tryz.prog w = .ok (zI 0) w:=by kernel_rfl
theorem chkI (em:Bool) (x:Int) (w:World):(Instr.checkKey em 10000 3 (zI x)).run Tryz.prog w = .ok () w:=by kernel_rfl
theorem keyI (x:Int) (l:List Int) (w:World):(Instr.findKey 3 (zI x) (entsI l 0)).run Tryz.prog w = .ok ((firstI l x).map fun k=>(k,Value.int .i64 (k:Int))) w:=by
 have h:=findingI x l 0 0;simp only [Nat.zero_add] at h;simp [Instr.findKey,run_underlying Tryz.underlying3,Sem.run_bind,h]
theorem lookI_run {w:World} {B:Nat} {l:List Int} (h:MpI w B l) (x:Int) :
  (Instr.lookup 180 (.map (some B)) (zI x) true).run Tryz.prog w = .ok (.tuple #[zI (((firstI l x).getD 0:Nat):Int),.bool (firstI l x).isSome]) w:=by
 have hf:=keyI x l w;cases hl:firstI l x with
 | none=>rw [hl] at hf;simp [Instr.lookup,run_underlying Tryz.underlying180,MapKept.run_getObj_map h,chkI,hf,zintI,Result.andThen,Sem.run_bind]
 | some k=>rw [hl] at hf;simp [Instr.lookup,run_underlying Tryz.underlying180,MapKept.run_getObj_map h,chkI,hf,Result.andThen,Sem.run_bind]
theorem updI_run {w:World} {B:Nat} {l:List Int} (h:MpI w B l) (x:Int) (hn:firstI l x=none) :
  ∃ W,(Instr.mapUpdate 180 (.map (some B)) (zI x) (zI (l.length:Int))).run Tryz.prog w = .ok () W∧MpI W B (l++[x])∧(∀ G,G≠B→W.heap[G]?=w.heap[G]?)∧(∀ B0 w0,B0≤B→Below B0 w0 w→Below B0 w0 W)∧W.heap.size=w.heap.size∧w.grownBy W (some B):=by
 have hf:=keyI x l w;rw [hn] at hf;refine ⟨setBlock w B (.map ((entsI l 0).toArray.push ⟨zI x,zI (l.length:Int),l.length⟩) (l.length+1)),?_,?_,fun G hG=>heap_setBlock_other h _ hG,fun B0 w0 hB hb=>?_,by simp [setBlock],⟨rfl,rfl,rfl,by simp [setBlock],fun k hk hne=>heap_setBlock_other h _ (fun e=>hne (by rw [e]))⟩⟩
 ·simp [Instr.mapUpdate,run_underlying Tryz.underlying180,MapKept.run_getObj_map h,chkI,hf,MapKept.run_setObj_map _ h,Result.andThen,setBlock,Sem.run_bind]
 ·unfold MpI;rw [heap_setBlock_same h,entsI_app,List.length_append];simp [entI]
 ·refine ⟨hb.os,hb.tape,hb.output,by simp [setBlock];exact hb.size,fun k hk=>?_⟩;rw [heap_setBlock_other h _ (by omega)];exact hb.block k hk
theorem mkMapI (w:World):(Instr.makeMap 180 none).run Tryz.prog w = .ok (.map (some w.heap.size)) (w.alloc (.map #[] 0)):=by kernel_rfl
def mes (bk:List Cm):List Int:=bk.map fun c=>c.a.me
theorem mes_len (bk:List Cm):(mes bk).length=bk.length:=by simp [mes]
theorem first_some {bk:List Cm} {x:Int} {k:Nat} (h:firstI (mes bk) x=some k):FirstAt bk x k:=by
 induction bk generalizing k with
 | nil=>cases h
 | cons c bk ih=>
  unfold mes firstI at h;simp only [List.map_cons] at h;by_cases hx:x=c.a.me
  ·rw [if_pos hx] at h;cases h;exact ⟨by simp,hx.symm,fun j hj=>absurd hj (Nat.not_lt_zero _)⟩
  ·rw [if_neg hx] at h;cases hf:firstI (mes bk) x with
   | none=>rw [show firstI (List.map (fun c=>c.a.me) bk) x=none from hf] at h;cases h
   | some m=>
    rw [show firstI (List.map (fun c=>c.a.me) bk) x=some m from hf] at h;cases h;have:=ih hf
    exact ⟨by have:=this.1;simp;omega,this.2.1,fun j hj=>by
     cases j with
     | zero=>exact fun e=>hx e.symm
     | succ j=>exact this.2.2 j (by have:j+1<m+1:=hj;omega)⟩
theorem first_none {bk:List Cm} {x:Int} (h:firstI (mes bk) x=none):NoneAt bk x:=by
 induction bk with
 | nil=>intro j hj;cases hj
 | cons c bk ih=>
  unfold mes firstI at h;simp only [List.map_cons] at h;by_cases hx:x=c.a.me
  ·rw [if_pos hx] at h;cases h
  ·rw [if_neg hx] at h
   have hf:firstI (mes bk) x=none:=by
    cases hf:firstI (mes bk) x with
    | none=>rfl
    | some m=>rw [show firstI (List.map (fun c=>c.a.me) bk) x=some m from hf] at h;cases h
   intro j hj;cases j with
   | zero=>exact fun e=>hx e.symm
   | succ j=>exact ih hf j (by simpa using hj)
theorem mes_set {bk:List Cm} {k:Nat} {c:Cm} (h:c.a.me=(bk.getD k cm0).a.me):mes (bk.set k c)=mes bk:=by
 unfold mes;apply List.ext_getElem?;intro j;simp only [List.getElem?_map,List.getElem?_set];by_cases hj:k=j
 ·subst hj;rw [if_pos rfl];by_cases hl:k<bk.length
  ·rw [if_pos hl,List.getElem?_eq_getElem hl];simp only [Option.map_some,h,List.getD,List.getElem?_eq_getElem hl,Option.getD]
  ·rw [if_neg hl,List.getElem?_eq_none (by omega)]
 ·rw [if_neg hj]
end book
namespace deb
open tar (Du du0 Came RowD Ld ErrPost TwoPost PairT)
open Go.RowKit
theorem pcheck (a:Option Addr) (n cap:Nat) (ls:List Du) (w:World) (hr:RowD w a n ls) (hn:n≤maxLen):Calls Tryz.prog 150 #[.slice a n cap] w fun e w'=>∃ f,e = .returned (zI f)∧FaultIs ls f∧Below w.heap.size w w':=by
 have hlen:=hr.1;have HIU:Hid (∀ x W,Calls Tryz.prog 153 #[zI 0,zI 1000000000,zI x] W fun e w'=>e = .returned (.bool (decide (0≤x∧x≤1000000000)))∧w'=W):=fun x W=>dwithin 0 1000000000 x W;have HIP:Hid (∀ x W,Calls Tryz.prog 153 #[zI 0,zI 10000,zI x] W fun e w'=>e = .returned (.bool (decide (0≤x∧x≤10000)))∧w'=W):=fun x W=>dwithin 0 10000 x W;have hnm:n≤9223372036854775807:=by unfold maxLen at hn;omega
 by_cases hs:n≤8
 ·have HS:Hid (ls.length≤8):=by show _≤_;rw [hlen];exact hs
  have hd8:decide (8<(n:Int))=false:=decide_eq_false (by omega);have HROW:Hid (RowD w a n ls):=hr;have HLEN:Hid (ls.length=n):=hlen;clear hr hn hlen;go_enter Tryz.func150,Tryz.ntmps150;go_wp2_with fail;go_loopw [10] (fun x wr=>∃ k:Nat,k≤n∧x=zI (k:Int)∧(∀ i,i<k→Ok1 (ls.getD i du0))∧Below w.heap.size w wr) (fun x _=>n - (intOf x).toNat)
  case atStart=>exact ⟨0,Nat.zero_le _,rfl,fun i hi=>absurd hi (Nat.not_lt_zero _),Below.refl _ _⟩
  case round=>
   obtain ⟨k,hk,rfl,hf,hb⟩:=hrel;have HF:Hid (∀ i,i<k→Ok1 (ls.getD i du0)):=hf;have HB:Hid (Below w.heap.size w wr):=hb;clear hf;by_cases hlt:k<n
   ·have hdl:decide ((k:Int)<(n:Int))=true:=by simp;omega
    obtain ⟨b,off,rfl,hbl,hc⟩:=HROW.o.at (by omega);have c0:wr.cell? ⟨b,off+k*2,none⟩=some (zI (ls.getD k du0).a):=(hb.cell (p:=⟨b,off+k*2,none⟩) hbl).trans (hc k hlt).1;have c1:wr.cell? ⟨b,off+k*2+1,none⟩=some (zI (ls.getD k du0).b):=(hb.cell (p:=⟨b,off+k*2+1,none⟩) hbl).trans (hc k hlt).2;have HBA:Hid (∀ o,Below w.heap.size w (wr.alloc o)):=fun o=>hb.alloc hb.size o;clear hb hc;have HU:=HIU.o (ls.getD k du0).a;have HP:=HIP.o (ls.getD k du0).b;by_cases hu:0≤(ls.getD k du0).a∧(ls.getD k du0).a≤1000000000
    ·rw [decide_eq_true hu] at HU;by_cases hp:0≤(ls.getD k du0).b∧(ls.getD k du0).b≤10000
     ·
      rw [decide_eq_true hp] at HP
      have HF2:Hid (∀ i,i<k+1→Ok1 (ls.getD i du0)):=fun i hi=>by
       by_cases e:i=k
       ·subst e;exact ⟨hu,hp⟩
       ·exact HF.o i (by omega)
      have HU2:Hid (∀ W,Calls Tryz.prog 153 #[zI 0,zI 1000000000,zI (ls.getD k du0).a] W fun e w'=>e = .returned (.bool true)∧w'=W):=HU;have HP2:Hid (∀ W,Calls Tryz.prog 153 #[zI 0,zI 10000,zI (ls.getD k du0).b] W fun e w'=>e = .returned (.bool true)∧w'=W):=HP;clear HU HP hu hp HF;generalize (ls.getD k du0).a=x at *;generalize (ls.getD k du0).b=y at *;go_wp2_with fail;refine (HU2.o _).mono ?_;rintro e w2 ⟨rfl,hw2⟩;subst w2;go_wp2_with fail;refine (HP2.o _).mono ?_;rintro e w2 ⟨rfl,hw2⟩;subst w2;go_wp2_with fail;go_roundw
      case rel=>exact ⟨k+1,by omega,by go_num,HF2.o,HBA.o _⟩
      case measure=>simp [intOf];omega
     ·
      rw [decide_eq_false hp] at HP;have HN:Hid (¬ DFits ls):=fun h=>hp (h k (by rw [HLEN.o];exact hlt)).2;have HU2:Hid (∀ W,Calls Tryz.prog 153 #[zI 0,zI 1000000000,zI (ls.getD k du0).a] W fun e w'=>e = .returned (.bool true)∧w'=W):=HU;have HP2:Hid (∀ W,Calls Tryz.prog 153 #[zI 0,zI 10000,zI (ls.getD k du0).b] W fun e w'=>e = .returned (.bool false)∧w'=W):=HP;clear HU HP hu hp HF;generalize (ls.getD k du0).a=x at *;generalize (ls.getD k du0).b=y at *;go_wp2_with fail;refine (HU2.o _).mono ?_;rintro e w2 ⟨rfl,hw2⟩;subst w2;go_wp2_with fail;refine (HP2.o _).mono ?_;rintro e w2 ⟨rfl,hw2⟩;subst w2;go_wp2_with fail;go_ret;exact ⟨_,rfl,.inr (.inl ⟨HS.o,HN.o,rfl⟩),HBA.o _⟩
    ·
     rw [decide_eq_false hu] at HU;have HN:Hid (¬ DFits ls):=fun h=>hu (h k (by rw [HLEN.o];exact hlt)).1;have HU2:Hid (∀ W,Calls Tryz.prog 153 #[zI 0,zI 1000000000,zI (ls.getD k du0).a] W fun e w'=>e = .returned (.bool false)∧w'=W):=HU;clear HU HP hu HF;generalize (ls.getD k du0).a=x at *;generalize (ls.getD k du0).b=y at *;go_wp2_with fail;refine (HU2.o _).mono ?_;rintro e w2 ⟨rfl,hw2⟩;subst w2;go_wp2_with fail;go_ret;exact ⟨_,rfl,.inr (.inl ⟨HS.o,HN.o,rfl⟩),HBA.o _⟩
   ·obtain rfl:k=n:=by omega
    have hdl:decide ((k:Int)<(k:Int))=false:=by simp
    have HFT:Hid (DFits ls):=fun i hi=>HF.o i (by rw [HLEN.o] at hi;exact hi);clear HF HIU HIP hb;go_wp2_with fail;go_ret;exact ⟨_,rfl,.inr (.inr ⟨⟨HS.o,HFT.o⟩,rfl⟩),HB.o⟩
 ·have HS:Hid (¬ ls.length≤8):=by show ¬ _≤_;rw [hlen];exact hs
  have hd8:decide (8<(n:Int))=true:=decide_eq_true (by omega);clear hs hr hlen hn;go_enter Tryz.func150,Tryz.ntmps150;go_wp2_with fail;go_ret;exact ⟨_,rfl,.inl ⟨HS.o,rfl⟩,Below.refl _ _⟩
end deb
end Go.Proofs.YtdpfnedfakgolaaGreatDoor
