import Derived.Test.YtnpblpbohcegoaaGreatDoorVBGws20
set_option linter.unusedVariables false
set_option linter.unusedSimpArgs false
set_option maxHeartbeats 4000000
set_option maxRecDepth 100000
namespace Go.Proofs.YtnpblpbohcegoaaGreatDoor
namespace vnd
open book (Ev ev0 Cm cm0 So so0 Sees)
open acc (Ac Tm Bi)
open ora (Pr)
open cell (Wr RowU RowW)
open rcp (Rc rc0)
open Go.RowKit
structure Od where
 k:Int
 m:Int
 a:Int
 b:Int
 d:Int
def od0:Od:=⟨0,0,0,0,0⟩
def wf5 (x:Od):Prop:=(Lit.int .i64 x.k).wf=true∧(Lit.int .i64 x.m).wf=true∧(Lit.int .i64 x.a).wf=true∧(Lit.int .i64 x.b).wf=true∧(Lit.int .i64 x.d).wf=true
def ServedIs (t:Tm) (c:List Int) (o:List Pr) (x:Od) (ls:List Wr) (o':List Pr) (r:Rc) (f:Int):Prop:=
 (check.pick x.k 8=0∧ChaIs t c (check.pick x.m 3) (1+check.pick x.a 100000) (check.pick x.b 1000) ls f∧o'=o∧r=rc0) ∨
 (check.pick x.k 8=1∧TokIs 3 t c o (check.pick x.m 3) 0 (check.pick x.b 12) (check.pick x.d 65536) ls o' r f) ∨
 (check.pick x.k 8=2∧TokIs 4 t c o (check.pick x.m 3) 0 0 (check.pick x.d 65536) ls o' r f) ∨
 ((check.pick x.k 8≠0∧check.pick x.k 8≠1∧check.pick x.k 8≠2)∧TokIs 2 t c o (check.pick x.m 3) (1+check.pick x.a 1000000) (check.pick x.b 12) (check.pick x.d 65536) ls o' r f)
def ServePost (w:World) (ao:Option Addr) (no:Nat) (R:List Wr→List Pr→Rc→Int→Prop) (e:Ending) (w':World):Prop:=∃ p m cp ls p5 n5 c5 o' r f,e = .returned (.tuple #[.slice p m cp,.agg #[.slice p5 n5 c5],rcp.Rc.v r,zI f])∧R ls o' r f∧RowW w' p m ls∧(∀ x,p=some x→w.heap.size≤x.block)∧m≤cp∧m≤100000∧ora.RowP w' p5 n5 o'∧(p5=none→c5=0)∧n5≤c5∧(0<n5→∀ y,p5=some y→w.heap.size≤y.block∨(0<no∧ao=some y))∧Below w.heap.size w w'
theorem rowW_updK {w W:World} {g:Nat} {cs:Array Value} {T:TypeId} {p:Option Addr} {n:Nat} {l:List Wr} (h:RowW w p n l) (hU:Upd w W g cs T) (hg:0<n→∀ y,p=some y→y.block≠g):RowW W p n l:=by
 refine ⟨h.1,?_⟩;rcases h.2 with h0 | ⟨b,off,rfl,hc⟩
 ·exact .inl h0
 ·refine .inr ⟨b,off,rfl,fun i hi=>?_⟩;have hne:b≠g:=hg (by omega) _ rfl;rw [hU.cell _ hne rfl,hU.cell _ hne rfl];exact hc i hi
theorem rowW_ltK {w:World} {p:Option Addr} {n:Nat} {l:List Wr} (h:RowW w p n l):0<n→∀ y,p=some y→y.block<w.heap.size:=fun hn y hy=>by
 rcases h.2 with h0 | ⟨b,off,rfl,hc⟩
 ·omega
 ·cases hy;exact World.block_lt_of_cell? w _ (hc 0 hn).1
theorem rowP_ltK {w:World} {p:Option Addr} {n:Nat} {l:List Pr} (h:ora.RowP w p n l):0<n→∀ y,p=some y→y.block<w.heap.size:=fun hn y hy=>by
 obtain ⟨b,off,h8,l8,_⟩:=h.at hn;rw [h8] at hy;cases hy;exact l8
theorem rowP_updK {w W:World} {g:Nat} {cs:Array Value} {T:TypeId} {p:Option Addr} {n:Nat} {l:List Pr} (h:ora.RowP w p n l) (hU:Upd w W g cs T) (hg:0<n→∀ y,p=some y→y.block≠g):ora.RowP W p n l:=by
 refine ⟨h.1,?_⟩;rcases h.2 with h0 | ⟨b,off,rfl,hc⟩
 ·exact .inl h0
 ·refine .inr ⟨b,off,rfl,fun i hi=>?_⟩;have hne:b≠g:=hg (by omega) _ rfl;obtain ⟨h0,h1,h2,h3⟩:=hc i hi;exact ⟨by rw [hU.cell _ hne rfl];exact h0,by rw [hU.cell _ hne rfl];exact h1,by rw [hU.cell _ hne rfl];exact h2,by rw [hU.cell _ hne rfl];exact h3⟩
theorem blk_new4 (w:World) (o p q r:Obj) (cs:Array Value) (t:TypeId):Blk (((((w.alloc o).alloc p).alloc q).alloc r).alloc (.cells cs t)) (w.heap.size+1+1+1+1) cs t:=by
 have h:=Blk.new ((((w.alloc o).alloc p).alloc q).alloc r) cs t
 rwa [show ((((w.alloc o).alloc p).alloc q).alloc r).heap.size=w.heap.size+1+1+1+1 by simp] at h
theorem blk_new5 (w:World) (o p q r s:Obj) (cs:Array Value) (t:TypeId):Blk ((((((w.alloc o).alloc p).alloc q).alloc r).alloc s).alloc (.cells cs t)) (w.heap.size+1+1+1+1+1) cs t:=by
 have h:=Blk.new (((((w.alloc o).alloc p).alloc q).alloc r).alloc s) cs t
 rwa [show (((((w.alloc o).alloc p).alloc q).alloc r).alloc s).heap.size=w.heap.size+1+1+1+1+1 by simp] at h
end vnd
namespace cell
open Go.RowKit
def fv (B:Nat):Value:= .func (.func 47) #[] #[.pointer (some ⟨B,0,none⟩)]
theorem astray_any (B n cc:Nat) (ca:Option Addr) (e0:Wr) (W:World) (hc:W.cell? ⟨B,0,none⟩=some (.slice ca n cc)) (hB:B<W.heap.size) (hn:n≤2048) :
  Calls Tryz.prog 47 #[.agg #[zI e0.p,.int .u32 e0.d],.pointer (some ⟨B,0,none⟩)] W fun e w'=>e = .returned (.bool (!inN n e0))∧Below W.heap.size W w':=by
 obtain ⟨p,d⟩:=e0;have hc2:(W.alloc (.cells #[zI p,.int .u32 d] 122)).cell? ⟨B,0,none⟩=some (.slice ca n cc):=by rw [World.cell?_alloc_lt W _ _ hB];exact hc
 have HB:Hid (Below W.heap.size W (W.alloc (.cells #[zI p,.int .u32 d] 122))):=(Below.refl _ _).alloc (Nat.le_refl _) _;clear hc hB;by_cases h0:p<0
 ·have e1:(!inN n ⟨p,d⟩)=true:=by simp [inN];omega
  rw [e1];clear e1;go_enter Tryz.func47,Tryz.ntmps47;go_wp2_with fail;go_ret;exact ⟨rfl,HB.o⟩
 ·by_cases h1:p<n
  ·have e1:(!inN n ⟨p,d⟩)=false:=by simp [inN];omega
   have h2:decide ((n:Int)≤p)=false:=by simp;omega
   rw [e1];clear e1;go_enter Tryz.func47,Tryz.ntmps47;go_wp2_with fail;go_ret;exact ⟨rfl,HB.o⟩
  ·have e1:(!inN n ⟨p,d⟩)=true:=by simp [inN];omega
   have h2:decide ((n:Int)≤p)=true:=by simp;omega
   rw [e1];clear e1;go_enter Tryz.func47,Tryz.ntmps47;go_wp2_with fail;go_ret;exact ⟨rfl,HB.o⟩
def IxPost (w:World) (n:Nat) (ls:List Wr) (e:Ending) (w':World):Prop:=
 ∃ r:Int,e = .returned (zI r)∧(allN n ls=true∧r=-1∨allN n ls=false∧0≤r)∧Below w.heap.size w w'
theorem index_any (B n cc m c2:Nat) (ca b:Option Addr) (ls:List Wr) (w:World) (hc:w.cell? ⟨B,0,none⟩=some (.slice ca n cc)) (hn:n≤2048) (hr:RowW w b m ls) (hm:m≤4096) :
  Calls Tryz.prog 82 #[.slice b m c2,fv B] w fun e w'=>IxPost w n ls e w':=by
 have hB:=World.block_lt_of_cell? w _ hc
 have HC:Hid (∀ wr,Below w.heap.size w wr→∀ e0:Wr,Calls Tryz.prog 47 #[.agg #[zI e0.p,.int .u32 e0.d],.pointer (some ⟨B,0,none⟩)] wr fun e w'=>e = .returned (.bool (!inN n e0))∧Below wr.heap.size wr w'):=fun wr hb e0=>
  astray_any B n cc ca e0 wr ((hb.cell (p:=⟨B,0,none⟩) hB).trans hc) (Nat.lt_of_lt_of_le hB hb.size) hn
 have HR:Hid (RowW w b m ls):=hr;have HL:Hid (ls.length=m):=hr.1;clear hc hB hr;unfold fv;go_enter Tryz.func82,Tryz.ntmps82;go_wp2_with fail;go_loopw [8] (fun i wr=>∃ k:Nat,k≤m∧i=zI (k:Int)∧allN n (ls.take k)=true∧Below w.heap.size w wr) (fun i _=>m - (intOf i).toNat)
 case atStart=>exact ⟨0,Nat.zero_le _,rfl,rfl,Below.refl _ _⟩
 case round=>
  obtain ⟨k,hk,rfl,hal,hb⟩:=hrel;have HA:Hid (allN n (ls.take k)=true):=hal;have HB:Hid (Below w.heap.size w wr):=hb;clear hal hb;by_cases hlt:k<m
  ·obtain ⟨b2,o2,rfl,l2,hc2⟩:=HR.o.at (by omega);have f1:wr.cell? ⟨b2,o2+k*2,none⟩=some (zI (ls.getD k wr0).p):=(HB.o.cell (p:=⟨b2,o2+k*2,none⟩) l2).trans (hc2 k hlt).1;have f2:wr.cell? ⟨b2,o2+k*2+1,none⟩=some (.int .u32 (ls.getD k wr0).d):=(HB.o.cell (p:=⟨b2,o2+k*2+1,none⟩) l2).trans (hc2 k hlt).2;have hcall:=HC.o wr HB.o (ls.getD k wr0);have HST:Hid (allN n (ls.take (k+1))=(allN n (ls.take k) && inN n (ls.getD k wr0))):=allN_step n ls k (by have:=HL.o;omega);have HFL:Hid (inN n (ls.getD k wr0)=false→allN n ls=false):=fun h=>allN_of_false (by have:=HL.o;omega) h;clear hc2 l2;cases hi:inN n (ls.getD k wr0) with
   | true=>
    rw [hi] at hcall HST;have HSA:Hid (allN n (ls.take (k+1))=true):=by show _=_;rw [HST.o,HA.o];rfl
    have HCL:Hid (Calls Tryz.prog 47 #[.agg #[zI (ls.getD k wr0).p,.int .u32 (ls.getD k wr0).d],.pointer (some ⟨B,0,none⟩)] wr fun e w'=>e = .returned (.bool false)∧Below wr.heap.size wr w'):=hcall;clear hcall HST HFL hi;generalize (ls.getD k wr0).p=p at *;generalize (ls.getD k wr0).d=d at *;go_wp2_with fail;refine HCL.o.mono ?_;rintro e w' ⟨rfl,hb'⟩;have HB':Hid (Below w.heap.size w w'):=bel_step HB.o hb';clear hb' f1 f2;go_wp2_with fail;go_roundw
    case rel=>exact ⟨k+1,by omega,by go_num,HSA.o,HB'.o⟩
    case measure=>simp [intOf];omega
   | false=>
    rw [hi] at hcall;have HFA:Hid (allN n ls=false):=HFL.o hi;have HCL:Hid (Calls Tryz.prog 47 #[.agg #[zI (ls.getD k wr0).p,.int .u32 (ls.getD k wr0).d],.pointer (some ⟨B,0,none⟩)] wr fun e w'=>e = .returned (.bool true)∧Below wr.heap.size wr w'):=hcall;clear hcall HST HFL hi;generalize (ls.getD k wr0).p=p at *;generalize (ls.getD k wr0).d=d at *;go_wp2_with fail;refine HCL.o.mono ?_;rintro e w' ⟨rfl,hb'⟩;have HB':Hid (Below w.heap.size w w'):=bel_step HB.o hb';clear hb' f1 f2;go_wp2_with fail;go_ret;exact ⟨(k:Int),rfl,.inr ⟨HFA.o,by omega⟩,HB'.o⟩
  ·obtain rfl:k=m:=by omega
   have HFA:Hid (allN n ls=true):=by have:=HA.o;rw [List.take_of_length_le (by have:=HL.o;omega)] at this;exact this
   go_wp2_with fail;go_ret;exact ⟨-1,rfl,.inl ⟨HFA.o,rfl⟩,HB.o⟩
theorem contains_any (B n cc m c2:Nat) (ca b:Option Addr) (ls:List Wr) (w:World) (hc:w.cell? ⟨B,0,none⟩=some (.slice ca n cc)) (hn:n≤2048) (hr:RowW w b m ls) (hm:m≤4096) :
  Calls Tryz.prog 48 #[.slice b m c2,fv B] w fun e w'=>e = .returned (.bool (!allN n ls))∧Below w.heap.size w w':=by
 have HI:Hid (Calls Tryz.prog 82 #[.slice b m c2,fv B] w fun e w'=>IxPost w n ls e w'):=index_any B n cc m c2 ca b ls w hc hn hr hm;clear hc hr;generalize fv B=V at *;go_enter Tryz.func48,Tryz.ntmps48;go_wp2_with fail;refine HI.o.mono ?_;rintro e w' ⟨r,rfl,hr,hb'⟩;have HB':Hid (Below w.heap.size w w'):=hb';clear hb';rcases hr with ⟨ha,rfl⟩ | ⟨ha,hr⟩
 ·have HA:Hid ((!allN n ls)=false):=by show _=_;rw [ha];rfl
  clear ha;go_wp2_with fail;go_ret;exact ⟨by rw [HA.o];rfl,HB'.o⟩
 ·have HA:Hid ((!allN n ls)=true):=by show _=_;rw [ha];rfl
  clear ha;have hd:decide ((0:Int)≤r)=true:=by simpa using hr
  go_wp2_with fail;go_ret;exact ⟨by rw [HA.o];rfl,HB'.o⟩
theorem apply_cap (a b:Option Addr) (n m c1 c2 k:Nat) (xs:List Int) (ls:List Wr) (w:World) (h1:RowU w a n xs) (h2:RowW w b m ls) (hn:1≤n) (hn2:n≤2048) (hm:m≤4096) (hc:m≤c2) (hall:allN n ls=true) (hk:k≤m) :
  Calls Tryz.prog 22 #[.slice a n c1,.slice b m c2,zI (k:Int)] w fun e w'=>GaveC w (wrt xs (ls.take k)) 0 e w':=by
 have HM:Hid (∀ W,Calls Tryz.prog 46 #[zI (n:Int)] W fun e w'=>e = .returned (.bool true)∧w'=W):=fun W=>may_yes _ W (by omega) (by omega);have hW:=Blk.new w #[.slice a n c1] 25;have HB:Hid (Below w.heap.size w (w.alloc (.cells #[.slice a n c1] 25))):=(Below.refl _ _).alloc (Nat.le_refl _) _;have hx:=hW.cell 0;have HX:Hid (∀ W',Below (w.alloc (.cells #[.slice a n c1] 25)).heap.size (w.alloc (.cells #[.slice a n c1] 25)) W'→W'.cell? ⟨w.heap.size,0,none⟩=some (.slice a n c1)):=fun W' hb=>(hW.next hb).cell 0
 have HC:Hid (Calls Tryz.prog 48 #[.slice b m c2,fv w.heap.size] (w.alloc (.cells #[.slice a n c1] 25)) fun e w'=>e = .returned (.bool false)∧Below (w.alloc (.cells #[.slice a n c1] 25)).heap.size (w.alloc (.cells #[.slice a n c1] 25)) w'):=by
  have h:=contains_any w.heap.size n c1 m c2 a b ls (w.alloc (.cells #[.slice a n c1] 25)) hx hn2 (h2.below HB.o) hm;rw [hall] at h;exact h
 have HW:Hid (∀ W,Below w.heap.size w W→Calls Tryz.prog 49 #[.slice a n c1,.slice b k k] W fun e w'=>∃ g,e = .returned (.slice (some ⟨g,0,none⟩) n n)∧RowU w' (some ⟨g,0,none⟩) n (wrt xs (ls.take k))∧Below W.heap.size W w'):=fun W hb=>
  written_any a b n k c1 k xs (ls.take k) W (h1.below hb) ((h2.below hb).cut hk) hn hn2 (by omega) (allN_take hall k)
 clear h1 h2 hall hW;unfold fv at HC;generalize wrt xs (ls.take k)=zs at *;go_enter Tryz.func22,Tryz.ntmps22;go_wp2_with fail;refine (HM.o _).mono ?_;rintro e w1 ⟨rfl,rfl⟩;go_wp2_with fail;refine HC.o.mono ?_;rintro e w2 ⟨rfl,hb2⟩;have hx2:=HX.o _ hb2;have HB2:=shB HB hb2;have HWD:Hid (Calls Tryz.prog 49 #[.slice a n c1,.slice b k k] w2.drew fun e w'=>∃ g,e = .returned (.slice (some ⟨g,0,none⟩) n n)∧RowU w' (some ⟨g,0,none⟩) n zs∧Below w2.heap.size w2.drew w'):=HW.o _ HB2.o.drew;have KS:Hid (w2.drew.cell? ⟨w.heap.size,0,none⟩=some (.slice a n c1)):=hx2;have hGl:w.heap.size<w2.drew.heap.size:=World.block_lt_of_cell? w2 _ hx2;have HGL:Hid (w.heap.size<w2.heap.size):=hGl;clear hb2 hx HC HM HX HW hGl;have hkc:k≤c2:=by omega
 cases b with
 | none=>
  go_wp2_with fail
  go_region_held (fun v=>v.cell? ⟨w.heap.size,0,none⟩=some (.slice a n c1))
   (first | with_reducible exact KS.o | with_reducible exact K1.o)
   (first
    | (go_at_call 49;with_reducible refine HWD.o.mono ?_;rintro e w3 ⟨g,rfl,hr3,hb3⟩
       have K1:Hid (w3.cell? ⟨w.heap.size,0,none⟩=some (.slice a n c1)):=(hb3.cell (p:=⟨w.heap.size,0,none⟩) HGL.o).trans hx2;have HF:Hid (RowU w3 (some ⟨g,0,none⟩) n zs∧Below w.heap.size w w3):=⟨hr3,bel_step HB2.o.drew hb3⟩
       clear hr3 hb3))
  all_goals go_wp2_with fail
  all_goals
   go_ret2;exact GaveC.mk HF.o.1 (fun h=>by cases h) (Nat.le_refl _) HF.o.2
 | some y=>
  go_wp2_with fail
  go_region_held (fun v=>v.cell? ⟨w.heap.size,0,none⟩=some (.slice a n c1))
   (first | with_reducible exact KS.o | with_reducible exact K1.o)
   (first
    | (go_at_call 49;with_reducible refine HWD.o.mono ?_;rintro e w3 ⟨g,rfl,hr3,hb3⟩
       have K1:Hid (w3.cell? ⟨w.heap.size,0,none⟩=some (.slice a n c1)):=(hb3.cell (p:=⟨w.heap.size,0,none⟩) HGL.o).trans hx2;have HF:Hid (RowU w3 (some ⟨g,0,none⟩) n zs∧Below w.heap.size w w3):=⟨hr3,bel_step HB2.o.drew hb3⟩
       clear hr3 hb3))
  all_goals go_wp2_with fail
  all_goals
   go_ret2;exact GaveC.mk HF.o.1 (fun h=>by cases h) (Nat.le_refl _) HF.o.2
end cell
namespace vnd
open disk (RepIs AppIs)
open book (Ev ev0 EMay evL evOf EncIs DecIs Cm cm0 So so0 BookIs Sees ECame FirstAt NoneAt)
open acc (Ac Tm Bi TCame ACame)
open cell (Wr RowU)
open Go.RowKit
theorem rowP_off {w W:World} {g:Nat} {v':Array Value} {T':TypeId} {p:Option Addr} {n:Nat} {l:List ora.Pr} (h:ora.RowP w p n l) (hg:∀ y,p=some y→y.block≠g) (hU:Upd w W g v' T'):ora.RowP W p n l:=by
 refine ⟨h.1,?_⟩;rcases h.2 with h0 | ⟨b,off,rfl,hc⟩
 ·exact .inl h0
 ·refine .inr ⟨b,off,rfl,fun i hi=>?_⟩;have hne:b≠g:=hg _ rfl;have h1:=hc i hi;unfold ora.PrAt at h1 ⊢;have hx:∀ o,W.cell? ⟨b,o,none⟩=w.cell? ⟨b,o,none⟩:=fun o=>hU.cell ⟨b,o,none⟩ hne rfl;simpa only [hx] using h1
end vnd
section
open Go.RowKit
structure WQ (P : Program) (ops : Array Oper) (C : World → Prop) (Q : Act → Prop) (l : List Oper) (a : Act) : Prop where
 out : wpQuiet P ops C Q l a
theorem wq_nil {P : Program} {ops : Array Oper} {C : World → Prop} {Q : Act → Prop} {a : Act} (h : Q a) : WQ P ops C Q [] a := ⟨h⟩
theorem wq_step {P : Program} {ops : Array Oper} {C : World → Prop} {Q : Act → Prop} {a : Act} {o : Oper} {rest : List Oper}
  (h : ∀ K : Act → Prop, (∀ a, WQ P ops C Q rest a → K a) → if Region.wanted o (yielded ops a.tmps) then o.quiet P a C K else K (a.put o.dst undef)) : WQ P ops C Q (o :: rest) a :=
 ⟨wpQuiet_step fun K hK => h K fun a ha => hK a ha.out⟩
theorem wq_skip {P : Program} {ops : Array Oper} {C : World → Prop} {Q : Act → Prop} {a : Act} {o : Oper} {rest : List Oper} (hw : Region.wanted o (yielded ops a.tmps) = false) (h : WQ P ops C Q rest (a.put o.dst undef)) : WQ P ops C Q (o :: rest) a := by
 refine ⟨?_⟩
 unfold wpQuiet
 rw [if_neg (by rw [hw]; decide)]
 exact h.out
theorem wq_below {P : Program} {id : Nat} {Q : Exit → Act → World → Prop} {a : Act} {w : World} {l : List Oper} (hm : P.follows .mixedOrders = true) (hB : Region.lexB .any l.toArray = true)
  (h : WQ P l.toArray (fun w' => ∃ p : Regrown, w' = Sort.grow (redrawn w p.d) p.os) (fun a' => ∀ w', (∃ p : Regrown, w' = Sort.grow (redrawn w p.d) p.os) → Q .normal a' w') l a) : (Code.region id l.toArray true).wp P Q a w :=
 wp_region_quiet_below hm hB h.out
end
namespace book
open Go.RowKit cell
theorem ws_upd {w W:World} {base g:Nat} {cs:Array Value} {t:TypeId} {v:Value} {l:List Int} (h:Ws w base v l) (hU:Upd w W g cs t) (hg:g<base):Ws W base v l:=by
 refine ⟨h.1,?_⟩;rcases h.2 with hn | ⟨g',cap,cur,hv,hb,hc,rest⟩
 ·exact .inl hn
 ·exact .inr ⟨g',cap,cur,hv,hb,by rw [hU.oth g' (by omega)];exact hc,rest⟩
theorem kenc:KEnc:=by
 intro w v hwf;clear hwf;unfold Ev.v;have hmf:∀ (fn:Fn) (first cap:Array Value) (w:World),(Instr.makeFunc fn first cap).run Tryz.prog w = .ok (.func fn first cap) w:=fun _ _ _ _=>rfl;have HMU:Hid (∀ W,Calls Tryz.prog 67 #[.agg #[zI v.kd,zI v.me,zI v.mo,zI v.id,zI v.te,zI v.de,zI v.fe,zI v.pr,zI v.ch,zI v.un,zI v.tg,zI v.ow,zI v.bp]] W fun e w'=>MustPost W v e w'):=fun W=>bmust v W;have HWO:Hid (EMay v→∀ W,Calls Tryz.prog 153 #[.agg #[zI v.kd,zI v.me,zI v.mo,zI v.id,zI v.te,zI v.de,zI v.fe,zI v.pr,zI v.ch,zI v.un,zI v.tg,zI v.ow,zI v.bp]] W fun e w'=>∃ V,e = .returned V∧Ws w' W.heap.size V (evL v)∧Below W.heap.size W w'):=fun hm W=>bwords v (may_word hm) W;obtain ⟨W1,HWW,HX1,HE1,HB1,-⟩:=sh2 w #[zI v.kd,zI v.me,zI v.mo,zI v.id,zI v.te,zI v.de,zI v.fe,zI v.pr,zI v.ch,zI v.un,zI v.tg,zI v.ow,zI v.bp] 72 #[zI 0] 27;go_enter_defers Tryz.func107,Tryz.ntmps107;go_upto_region 2 with fail
 rw [HWW.o];clear HWW;obtain ⟨c0,c1,c2,c3,c4,c5,c6,c7,c8,c9,c10,c11,c12⟩:=scl13 HX1;go_wp2_with fail;refine (HMU.o _).mono ?_;rintro e W2 ⟨hm,hb⟩;have HX2:=shN HX1 hb;have HE2:=shN HE1 hb;have HB2:=shB HB1 hb;clear hb HX1 HE1 HB1 HMU c0 c1 c2 c3 c4 c5 c6 c7 c8 c9 c10 c11 c12;rcases hm with ⟨hm,rfl⟩ | ⟨hm,rfl⟩
 ·have HY:Hid (EMay v):=hm;have HWV:=HWO.o hm;have HWV':Hid (∀ W,Calls Tryz.prog 153 #[.agg #[zI v.kd,zI v.me,zI v.mo,zI v.id,zI v.te,zI v.de,zI v.fe,zI v.pr,zI v.ch,zI v.un,zI v.tg,zI v.ow,zI v.bp]] W fun e w'=>∃ V,e = .returned V∧Ws w' W.heap.size V (evL v)∧Below W.heap.size W w'):=HWV;clear hm HWO HWV;obtain ⟨c0,c1,c2,c3,c4,c5,c6,c7,c8,c9,c10,c11,c12⟩:=scl13 HX2;go_wp2_with fail;refine (HWV'.o _).mono ?_;rintro e W3 ⟨V,rfl,hV,hb⟩;have HE3:=shN HE2 hb;have HB3:=shB HB2 hb;have HV3:Hid (Ws W3 W2.heap.size V (evL v)):=hV;have hgs:Hid (w.heap.size+1<W2.heap.size):=HE2.o.lt;clear hb hV HX2 HE2 HB2 HWV' c0 c1 c2 c3 c4 c5 c6 c7 c8 c9 c10 c11 c12;go_wp2_with (first | (refine wp_let1 rfl 27 _ _ rfl (w.heap.size+1) 0 rfl .i64 0 rfl (by kernel_rfl) #[zI 0] 27 HE3.o (by decide) ?_) | fail)
  intro W4 hU;have HE4:Hid (Blk W4 (w.heap.size+1) #[zI 0] 27):=hU.blk;have HB4:=shV hU HB3 (by omega);have HV4:Hid (Ws W4 W2.heap.size V (evL v)):=ws_upd HV3.o hU hgs.o;clear hU;go_wp2_with fail;refine leaves_cons (f:=152) (args:=#[.pointer (some ⟨w.heap.size+1,0,none⟩)]) (by simp) (by simp [go_sem]) ?_;refine (encode_idle (w.heap.size+1) 0 _ HE4.o).mono ?_;rintro e u' w5 ⟨rfl,hs,W,hb,hU⟩;have r0:w5.cell? ⟨w.heap.size+1,0,none⟩=some (zI 0):=hU.blk.cell 0;have HB5:Below w.heap.size w w5:=hU.bel _ _ (by omega) (bel_step HB4.o hb);have HV5:Ws w5 W2.heap.size V (evL v):=ws_upd (HV4.o.next hb) hU hgs.o;obtain ⟨a,cap,hva,hrow,h1,h2⟩:=HV5.row;show Leaves _ _ _ _ [] (settle u') w5;rw [hs];refine ⟨.tuple #[V,zI 0],by simp [results,Tryz.results107,r0,go_sem],?_⟩;subst hva;exact ⟨a,_,cap,evL v,0,rfl,.inl ⟨HY.o,rfl,rfl⟩,hrow,h1,h2,by rw [evL_len];exact Nat.le_refl _,HB5⟩
 ·have HN:Hid (¬ EMay v):=hm;clear hm HWO;refine leaves_cons (f:=152) (args:=#[.pointer (some ⟨w.heap.size+1,0,none⟩)]) (by simp) (by simp [go_sem]) ?_;refine (encode_caught (w.heap.size+1) 0 5 _ HE2.o).mono ?_;rintro e u' w5 ⟨rfl,hs,W,hb,hU⟩;have r0:w5.cell? ⟨w.heap.size+1,0,none⟩=some (zI 5):=hU.blk.cell 0;have HB5:Below w.heap.size w w5:=hU.bel _ _ (by omega) (bel_step HB2.o hb);show Leaves _ _ _ _ [] (settle u') w5;rw [hs];refine ⟨.tuple #[zS,zI 5],by simp [results,Tryz.results107,r0,go_sem],?_⟩;exact ⟨none,0,0,[],5,rfl,.inr ⟨HN.o,rfl,rfl⟩,RowU.nil _ _,fun _=>rfl,Nat.le_refl _,Nat.zero_le _,HB5⟩
end book
end Go.Proofs.YtnpblpbohcegoaaGreatDoor
