import Derived.Test.YtnpblpbohcegoaaGreatDoorVBGws32
set_option linter.unusedVariables false
set_option linter.unusedSimpArgs false
set_option maxHeartbeats 4000000
set_option maxRecDepth 100000
namespace Go.Proofs.YtnpblpbohcegoaaGreatDoor
namespace vnd
open book (Ev ev0 EMay evL evOf Cm cm0 So so0 BookIs FirstAt NoneAt StepIs HapIs)
open acc (Ac Tm Bi)
def Begun (l:List Ev) (k:Nat):Prop:=∀ i,i<k→(l.getD i ev0).kd=1
theorem begun_app {l:List Ev} {k:Nat} (hl:k≤l.length) (h:Begun l k) (v:Ev):Begun (l++[v]) k:=fun i hi=>by
 have e:(l++[v]).getD i ev0=l.getD i ev0:=by simp [List.getD,List.getElem?_append_left (show i<l.length by omega)]
 rw [e];exact h i hi
theorem begun_next {l:List Ev} {k:Nat} (hl:l.length=k) (h:Begun l k) (me:Int):Begun (l++[regE me]) (k+1):=fun i hi=>by
 by_cases e:i<k
 ·exact begun_app (by omega) h _ i e
 ·have hi2:i=l.length:=by omega
  subst hi2;simp [List.getD,regE]
theorem step_len {t:Tm} {bk bk':List Cm} {v:Ev} (h:StepIs t bk v bk' 0):bk.length≤bk'.length∧(v.kd=1→bk'.length=bk.length+1):=by
 rcases h with ⟨_,r⟩ | ⟨_,_,_,r⟩ | ⟨_,_,_,_,s⟩ | ⟨_,_,_,r⟩ | ⟨p,q,k,c',hk,hh,s⟩
 ·cases r
 ·cases r
 ·rw [s,List.length_append];exact ⟨by omega,fun _=>rfl⟩
 ·cases r
 ·rw [s rfl,List.length_set];exact ⟨Nat.le_refl _,fun e=>absurd e q⟩
theorem book_part {t:Tm} {l:List Ev} {bk:List Cm} (h:BookIs t l bk 0 0) (h3:bk.length=3) (hl3:3≤l.length) (hb:Begun l 3) (k:Nat) (hk:k≤l.length):∃ b,BookIs t (l.take k) b 0 0∧Grows b bk∧b.length=min k 3:=by
 obtain ⟨ht,hl,_,st,s0,s1,rfl⟩:=book_ok h;have hlen:(l.take k).length=k:=by rw [List.length_take];omega
 have hg:∀ i j,i+j≤l.length→Grows (st i) (st (i+j)):=by
  intro i j
  induction j with
  | zero=>intro _;exact Grows.refl _
  | succ j ih=>intro hj;exact (ih (by omega)).trans (step_grows (s1 (i+j) (by omega)))
 have hf:∀ i,i≤3→(st i).length=i:=by
  intro i
  induction i with
  | zero=>intro _;rw [s0];rfl
  | succ i ih=>intro hi;rw [(step_len (s1 i (by omega))).2 (hb i (by omega)),ih (by omega)]
 refine ⟨st k,.inr (.inr ⟨ht,by omega,k,st,s0,fun i hi=>?_,.inl ⟨hlen.symm,rfl,rfl,rfl⟩⟩),?_,?_⟩
 ·have e:(l.take k).getD i ev0=l.getD i ev0:=by simp [List.getD,hi]
  rw [e];exact s1 i (by omega)
 ·have:=hg k (l.length - k) (by omega)
  rwa [show k+(l.length - k)=l.length by omega] at this
 ·by_cases e:k≤3
  ·rw [hf k e];omega
  ·have a1:=(hg 3 (k - 3) (by omega)).1;have a2:=(hg k (l.length - k) (by omega)).1;rw [show 3+(k - 3)=k by omega,hf 3 (by omega)] at a1;rw [show k+(l.length - k)=l.length by omega] at a2;omega
end vnd
namespace book
open Go.RowKit
theorem eqSo_f0 (x0 x1 x2 x3 x4:Int) (w:World):(part 3 #[zI x0,zI x1,zI x2,zI x3,zI x4] 0).run Tryz.prog w = .ok (zI x0) w:=by kernel_rfl
theorem eqSo_f1 (x0 x1 x2 x3 x4:Int) (w:World):(part 3 #[zI x0,zI x1,zI x2,zI x3,zI x4] 1).run Tryz.prog w = .ok (zI x1) w:=by kernel_rfl
theorem eqSo_f2 (x0 x1 x2 x3 x4:Int) (w:World):(part 3 #[zI x0,zI x1,zI x2,zI x3,zI x4] 2).run Tryz.prog w = .ok (zI x2) w:=by kernel_rfl
theorem eqSo_f3 (x0 x1 x2 x3 x4:Int) (w:World):(part 3 #[zI x0,zI x1,zI x2,zI x3,zI x4] 3).run Tryz.prog w = .ok (zI x3) w:=by kernel_rfl
theorem eqSo_f4 (x0 x1 x2 x3 x4:Int) (w:World):(part 3 #[zI x0,zI x1,zI x2,zI x3,zI x4] 4).run Tryz.prog w = .ok (zI x4) w:=by kernel_rfl
theorem eqSoN (x0 x1 x2 x3 x4:Int) (w:World):(Op.equalIn 10000 56 (.agg #[zI x0,zI x1,zI x2,zI x3,zI x4]) (.agg #[zI x0,zI x1,zI x2,zI x3,zI x4])).run Tryz.prog w = .ok true w:=by
 rw [show (10000:Nat)=9999+1 from rfl,run_equalIn_agg w 9999 56 _ _ (by kernel_rfl) (by kernel_rfl)];simp only [Program.fieldsOf,Tryz.underlying56,Op.eqFields,Sem.run_bind,Sem.run_ite];simp [eqSo_f0,eqSo_f1,eqSo_f2,eqSo_f3,eqSo_f4,show (9999:Nat)=9998+1 from rfl,eqI]
theorem eqRSo (r:So):∀ w:World,(Op.equalIn 10000 56 (.agg #[zI r.id,zI r.cl,zI r.am,zI r.tg,zI r.rv]) (.agg #[zI r.id,zI r.cl,zI r.am,zI r.tg,zI r.rv])).run Tryz.prog w = .ok true w:=fun w=>eqSoN _ _ _ _ _ w
theorem solds_keep (a b:Option Addr) (n c1 c2:Nat) (zs:List So) (w:World) (h1:RowS w a n zs) (h2:RowS w b n zs) (hn:n≤4611686018427387903) :
  Calls Tryz.prog 20 #[.slice a n c1,.slice b n c2] w fun e w'=>e = .returned (.bool true)∧Below w.heap.size w w':=by
 have hne:((n:Int) != (n:Int))=false:=by simp
 have H1:Hid (RowS w a n zs):=h1;have H2:Hid (RowS w b n zs):=h2;clear h1 h2;go_enter Tryz.func20,Tryz.ntmps20;go_wp2_with fail;go_loopw [5] (fun i wr=>∃ k:Nat,k≤n∧i=zI (k:Int)∧Below w.heap.size w wr) (fun i _=>n - (intOf i).toNat)
 case atStart=>exact ⟨0,Nat.zero_le _,rfl,Below.refl _ _⟩
 case round=>
  obtain ⟨k,hk,rfl,hbl⟩:=hrel;have HBL:Hid (Below w.heap.size w wr):=hbl;clear hbl;by_cases hkn:k<n
  ·have ek:decide ((k:Int)<(n:Int))=true:=by simp;omega
   obtain ⟨b1,o1,ea,l1,hc1⟩:=H1.o.2.resolve_left (by omega);obtain ⟨b2,o2,eb,l2,hc2⟩:=H2.o.2.resolve_left (by omega);subst ea;subst eb;have HC0:Hid (∀ u,Below w.heap.size w u→u.cell? ⟨b1,o1+k*5,none⟩=some (zI (zs.getD k so0).id)):=fun u hu=>(hu.cell (p:=⟨b1,o1+k*5+0,none⟩) l1).trans (hc1 k 0 hkn (by decide));have HC1:Hid (∀ u,Below w.heap.size w u→u.cell? ⟨b1,o1+k*5+1,none⟩=some (zI (zs.getD k so0).cl)):=fun u hu=>(hu.cell (p:=⟨b1,o1+k*5+1,none⟩) l1).trans (hc1 k 1 hkn (by decide));have HC2:Hid (∀ u,Below w.heap.size w u→u.cell? ⟨b1,o1+k*5+2,none⟩=some (zI (zs.getD k so0).am)):=fun u hu=>(hu.cell (p:=⟨b1,o1+k*5+2,none⟩) l1).trans (hc1 k 2 hkn (by decide));have HC3:Hid (∀ u,Below w.heap.size w u→u.cell? ⟨b1,o1+k*5+3,none⟩=some (zI (zs.getD k so0).tg)):=fun u hu=>(hu.cell (p:=⟨b1,o1+k*5+3,none⟩) l1).trans (hc1 k 3 hkn (by decide));have HC4:Hid (∀ u,Below w.heap.size w u→u.cell? ⟨b1,o1+k*5+4,none⟩=some (zI (zs.getD k so0).rv)):=fun u hu=>(hu.cell (p:=⟨b1,o1+k*5+4,none⟩) l1).trans (hc1 k 4 hkn (by decide));have HD0:Hid (∀ u,Below w.heap.size w u→u.cell? ⟨b2,o2+k*5,none⟩=some (zI (zs.getD k so0).id)):=fun u hu=>(hu.cell (p:=⟨b2,o2+k*5+0,none⟩) l2).trans (hc2 k 0 hkn (by decide));have HD1:Hid (∀ u,Below w.heap.size w u→u.cell? ⟨b2,o2+k*5+1,none⟩=some (zI (zs.getD k so0).cl)):=fun u hu=>(hu.cell (p:=⟨b2,o2+k*5+1,none⟩) l2).trans (hc2 k 1 hkn (by decide));have HD2:Hid (∀ u,Below w.heap.size w u→u.cell? ⟨b2,o2+k*5+2,none⟩=some (zI (zs.getD k so0).am)):=fun u hu=>(hu.cell (p:=⟨b2,o2+k*5+2,none⟩) l2).trans (hc2 k 2 hkn (by decide));have HD3:Hid (∀ u,Below w.heap.size w u→u.cell? ⟨b2,o2+k*5+3,none⟩=some (zI (zs.getD k so0).tg)):=fun u hu=>(hu.cell (p:=⟨b2,o2+k*5+3,none⟩) l2).trans (hc2 k 3 hkn (by decide));have HD4:Hid (∀ u,Below w.heap.size w u→u.cell? ⟨b2,o2+k*5+4,none⟩=some (zI (zs.getD k so0).rv)):=fun u hu=>(hu.cell (p:=⟨b2,o2+k*5+4,none⟩) l2).trans (hc2 k 4 hkn (by decide))
   have hq:=eqRSo (zs.getD k so0);clear hc1 hc2 l1 l2;generalize zs.getD k so0=r at *;go_wp2_with fail;refine wp_region_held_drew (S:=fun v=>Below w.heap.size w v) (by kernel_rfl) HBL.o.drew (fun hHeld=>?_);refine zqs 0 17 (.slice (some ⟨b1,o1,none⟩) n c1) rfl rfl (by kernel_rfl) zid rfl (fun v hv=>by clear hv;go_simp) hHeld ?_;simp only [zq];refine zqs 1 18 (zI (k:Int)) rfl rfl (by kernel_rfl) zid rfl (fun v hv=>by clear hv;go_simp) hHeld ?_;simp only [zq];refine zqs 2 19 (.pointer (some ⟨b1,o1+k*5,none⟩)) rfl rfl (by kernel_rfl) zid rfl (fun v hv=>by clear hv;go_simp) hHeld ?_;simp only [zq];refine zqt 3 20 (.agg #[zI r.id,zI r.cl,zI r.am,zI r.tg,zI r.rv]) rfl rfl (by kernel_rfl) zid (Or.inl ⟨by rfl,fun v hv=>by have q0:=HC0.o v hv;have q1:=HC1.o v hv;have q2:=HC2.o v hv;have q3:=HC3.o v hv;have q4:=HC4.o v hv;clear hv;go_simp⟩) hHeld ?_;simp only [zq];refine zqs 4 21 (.slice (some ⟨b2,o2,none⟩) n c2) rfl rfl (by kernel_rfl) zid rfl (fun v hv=>by clear hv;go_simp) hHeld ?_;simp only [zq];refine zqs 5 22 (zI (k:Int)) rfl rfl (by kernel_rfl) zid rfl (fun v hv=>by clear hv;go_simp) hHeld ?_;simp only [zq];refine zqs 6 23 (.pointer (some ⟨b2,o2+k*5,none⟩)) rfl rfl (by kernel_rfl) zid rfl (fun v hv=>by clear hv;go_simp) hHeld ?_;simp only [zq];refine zqt 7 24 (.agg #[zI r.id,zI r.cl,zI r.am,zI r.tg,zI r.rv]) rfl rfl (by kernel_rfl) zid (Or.inl ⟨by rfl,fun v hv=>by have q0:=HD0.o v hv;have q1:=HD1.o v hv;have q2:=HD2.o v hv;have q3:=HD3.o v hv;have q4:=HD4.o v hv;clear hv;go_simp⟩) hHeld ?_;simp only [zq];refine zqt 8 25 (.bool false) rfl rfl (by kernel_rfl) zid (Or.inl ⟨by rfl,fun v hv=>run_neOp 56 _ _ _ rfl #[zI r.id,zI r.cl,zI r.am,zI r.tg,zI r.rv] #[zI r.id,zI r.cl,zI r.am,zI r.tg,zI r.rv] rfl rfl (by kernel_rfl) true (hq _)⟩) hHeld ?_;simp only [zq];refine wpAnyH_done (by kernel_rfl) ?_ _;clear hHeld;have HB2:Hid (Below w.heap.size w wr.drew):=HBL.o.drew;go_wp2_with fail
   go_roundw
   case rel=>exact ⟨k+1,by omega,by go_num,HB2.o⟩
   case measure=>simp [intOf];omega
  ·obtain rfl:k=n:=by omega
   go_wp2_with fail;go_ret;exact ⟨rfl,HBL.o⟩
end book
namespace token
open words
open Go.RowKit
theorem words_no (c i a t:Int) (w:World) (ht:TTab w) (h:flawT c i a t≠0) :
  Calls Tryz.prog 52 #[.agg #[zI c,zI i,zI a,zI t]] w fun e w'=>e = .returned (.tuple #[.agg #[.int .u32 0,.int .u32 0,.int .u32 0],zI (flawT c i a t)])∧Below w.heap.size w w':=by
 have HF:Hid (∀ W,TTab W→Calls Tryz.prog 85 #[.agg #[zI c,zI i,zI a,zI t]] W fun e w'=>e = .returned (zI (flawT c i a t))∧Below W.heap.size W w'):=fun W hW=>flaw_any c i a t W hW;have hd:(flawT c i a t != 0)=true:=by simpa using h
 have hb0:Below w.heap.size w ((w.alloc (.cells #[zI c,zI i,zI a,zI t] 96)).alloc (.cells #[.int .u32 0,.int .u32 0,.int .u32 0] 131)):=(bel_box _ _).alloc (by simp) _;have HB:Hid (Below w.heap.size w ((w.alloc (.cells #[zI c,zI i,zI a,zI t] 96)).alloc (.cells #[.int .u32 0,.int .u32 0,.int .u32 0] 131))):=hb0;have HT:Hid (TTab ((w.alloc (.cells #[zI c,zI i,zI a,zI t] 96)).alloc (.cells #[.int .u32 0,.int .u32 0,.int .u32 0] 131))):=ht.below hb0;have HX:Hid (Blk ((w.alloc (.cells #[zI c,zI i,zI a,zI t] 96)).alloc (.cells #[.int .u32 0,.int .u32 0,.int .u32 0] 131)) (w.heap.size+1) #[.int .u32 0,.int .u32 0,.int .u32 0] 131):=Blk.new1 _ _ _ _;clear ht h hb0;generalize flawT c i a t=f at *;go_enter Tryz.func52,Tryz.ntmps52;go_wp2_with fail;refine (HF.o _ HT.o).mono ?_;rintro e w1 ⟨rfl,hb1⟩;have hX:=HX.o.next hb1;have hB1:=bel_step HB.o hb1;have HB1:Hid (Below w.heap.size w (((w1.setCell ⟨w.heap.size+1,0,none⟩ (.int .u32 0)).setCell ⟨w.heap.size+1,1,none⟩ (.int .u32 0)).setCell ⟨w.heap.size+1,2,none⟩ (.int .u32 0))):=bel_set (bel_set (bel_set hB1 _ _ _ (by omega)) _ _ _ (by omega)) _ _ _ (by omega);have RR:Blk (((w1.setCell ⟨w.heap.size+1,0,none⟩ (.int .u32 0)).setCell ⟨w.heap.size+1,1,none⟩ (.int .u32 0)).setCell ⟨w.heap.size+1,2,none⟩ (.int .u32 0)) (w.heap.size+1) #[.int .u32 0,.int .u32 0,.int .u32 0] 131:=((hX.set 0 _).set 1 _).set 2 _;have R0:Hid (_=_):=RR.cell 0;have R1:Hid (_=_):=RR.cell 1;have R2:Hid (_=_):=RR.cell 2;have x0:=hX.cell 0;have x1:=hX.cell 1;have x2:=hX.cell 2;have f0:=hX.free 0;have f1:=hX.free 1;have f2:=hX.free 2;clear hb1 HF HB HT HX hX RR hB1;go_wp2_with fail;refine bodyPost_ret (v:= .tuple #[.agg #[.int .u32 0,.int .u32 0,.int .u32 0],zI f]) (by simp [results,Tryz.results52,R0.o,R1.o,R2.o,go_sem]) rfl ⟨rfl,HB1.o⟩
def WordsPost (w:World) (k:Tok) (e:Ending) (w':World):Prop:=∃ a b c:Nat,e = .returned (.tuple #[.agg #[.int .u32 (a:Int),.int .u32 (b:Int),.int .u32 (c:Int)],zI 0])∧WN a b c (k.num*97)∧Below w.heap.size w w'
theorem words_ok (k:Tok) (w:World) (ht:TTab w) (hk:k.ok) :
  Calls Tryz.prog 52 #[k.v] w fun e w'=>WordsPost w k e w':=by
 have HF:Hid (∀ W,TTab W→Calls Tryz.prog 85 #[.agg #[zI (k.c:Int),zI (k.i:Int),zI (k.a:Int),zI (k.t:Int)]] W fun e w'=>e = .returned (zI 0)∧Below W.heap.size W w'):=fun W hW=>by
  have:=flaw_any k.c k.i k.a k.t W hW
  rwa [flaw_tok.2 hk] at this
 have HP:Hid (∀ W,TTab W→Calls Tryz.prog 87 #[.agg #[zI (k.c:Int),zI (k.i:Int),zI (k.a:Int),zI (k.t:Int)]] W fun e w'=>PackPost W k e w'):=fun W hW=>pack_any k W hk hW
 have HQ:Hid (∀ (x y z:Nat) W,WN x y z k.num→Calls Tryz.prog 86 #[.agg #[.int .u32 (x:Int),.int .u32 (y:Int),.int .u32 (z:Int)],.int .u32 97] W fun e w'=>∃ (a' b' c':Nat) (o:Int),e = .returned (.tuple #[.agg #[.int .u32 (a':Int),.int .u32 (b':Int),.int .u32 (c':Int)],.int .u32 o])∧WN a' b' c' (k.num*97)∧Below W.heap.size W w'):=fun x y z W hW=>
  times_wn x y z k.num 97 W hW (by omega) (by have:=num_bd hk;omega)
 have hb0:Below w.heap.size w ((w.alloc (.cells #[zI (k.c:Int),zI (k.i:Int),zI (k.a:Int),zI (k.t:Int)] 96)).alloc (.cells #[.int .u32 0,.int .u32 0,.int .u32 0] 131)):=(bel_box _ _).alloc (by simp) _;have HB:Hid (Below w.heap.size w ((w.alloc (.cells #[zI (k.c:Int),zI (k.i:Int),zI (k.a:Int),zI (k.t:Int)] 96)).alloc (.cells #[.int .u32 0,.int .u32 0,.int .u32 0] 131))):=hb0;have HT:Hid (TTab ((w.alloc (.cells #[zI (k.c:Int),zI (k.i:Int),zI (k.a:Int),zI (k.t:Int)] 96)).alloc (.cells #[.int .u32 0,.int .u32 0,.int .u32 0] 131))):=ht.below hb0;have HR:Hid (Blk ((w.alloc (.cells #[zI (k.c:Int),zI (k.i:Int),zI (k.a:Int),zI (k.t:Int)] 96)).alloc (.cells #[.int .u32 0,.int .u32 0,.int .u32 0] 131)) (w.heap.size+1) #[.int .u32 0,.int .u32 0,.int .u32 0] 131):=Blk.new1 _ _ _ _;have HX:Hid (Blk ((w.alloc (.cells #[zI (k.c:Int),zI (k.i:Int),zI (k.a:Int),zI (k.t:Int)] 96)).alloc (.cells #[.int .u32 0,.int .u32 0,.int .u32 0] 131)) w.heap.size #[zI (k.c:Int),zI (k.i:Int),zI (k.a:Int),zI (k.t:Int)] 96):=(Blk.new _ _ _).alloc _;clear ht hk hb0;unfold Tok.v;go_enter Tryz.func52,Tryz.ntmps52;go_wp2_with fail;refine (HF.o _ HT.o).mono ?_;rintro e w1 ⟨rfl,hb1⟩;have HB1:=shB HB hb1;have HT1:Hid (TTab w1):=HT.o.below hb1;have HR1:=shN HR hb1;have hX:=HX.o.next hb1;have x0:=hX.cell 0;have x1:=hX.cell 1;have x2:=hX.cell 2;have x3:=hX.cell 3;clear hb1 HF HB HT HX hX HR;go_wp2_with fail;refine (HP.o _ HT1.o).mono ?_;rintro e w2 ⟨x,y,z,rfl,hwn,hb2⟩;have HB2:=shB HB1 hb2;have HR2:=shN HR1 hb2;have HN:Hid (WN x y z k.num):=hwn;clear hb2 hwn HB1 HT1 HP x0 x1 x2 x3 HR1;go_wp2_with fail;refine (HQ.o _ _ _ _ HN.o).mono ?_;rintro e w3 ⟨a',b',c',o,rfl,hwn,hb3⟩;have hB3:=(bel_step HB2.o hb3).alloc (bel_step HB2.o hb3).size (.cells #[.int .u32 (a':Int),.int .u32 (b':Int),.int .u32 (c':Int)] 131);have hR3:=(HR2.o.next hb3).alloc (.cells #[.int .u32 (a':Int),.int .u32 (b':Int),.int .u32 (c':Int)] 131)
 have HN3:Hid (WN a' b' c' (k.num*97)):=hwn;clear hb3 HB2 HQ HR2 HN hwn;have HB4:Hid (Below w.heap.size w ((((w3.alloc (.cells #[.int .u32 (a':Int),.int .u32 (b':Int),.int .u32 (c':Int)] 131)).setCell ⟨w.heap.size+1,0,none⟩ (.int .u32 (a':Int))).setCell ⟨w.heap.size+1,1,none⟩ (.int .u32 (b':Int))).setCell ⟨w.heap.size+1,2,none⟩ (.int .u32 (c':Int)))):=bel_set (bel_set (bel_set hB3 _ _ _ (by omega)) _ _ _ (by omega)) _ _ _ (by omega);have RR:Blk ((((w3.alloc (.cells #[.int .u32 (a':Int),.int .u32 (b':Int),.int .u32 (c':Int)] 131)).setCell ⟨w.heap.size+1,0,none⟩ (.int .u32 (a':Int))).setCell ⟨w.heap.size+1,1,none⟩ (.int .u32 (b':Int))).setCell ⟨w.heap.size+1,2,none⟩ (.int .u32 (c':Int))) (w.heap.size+1) #[.int .u32 (a':Int),.int .u32 (b':Int),.int .u32 (c':Int)] 131:=((hR3.set 0 _).set 1 _).set 2 _;have R0:Hid (_=_):=RR.cell 0;have R1:Hid (_=_):=RR.cell 1;have R2:Hid (_=_):=RR.cell 2;have x0:=hR3.cell 0;have x1:=hR3.cell 1;have x2:=hR3.cell 2;have f0:=hR3.free 0;have f1:=hR3.free 1;have f2:=hR3.free 2;clear RR hR3 hB3;go_wp2_with fail;refine bodyPost_ret (v:= .tuple #[.agg #[.int .u32 (a':Int),.int .u32 (b':Int),.int .u32 (c':Int)],zI 0]) (by simp [results,Tryz.results52,R0.o,R1.o,R2.o,go_sem]) rfl ⟨a',b',c',rfl,HN3.o,HB4.o⟩
theorem body_ok (k:Tok) (w:World) (ht:TTab w) (hk:k.ok) :
  Calls Tryz.prog 162 #[k.v] w fun e w'=>e = .returned (.tuple #[zI (k.body:Int),zI 0])∧Below w.heap.size w w':=by
 have HF:Hid (∀ W,TTab W→Calls Tryz.prog 85 #[.agg #[zI (k.c:Int),zI (k.i:Int),zI (k.a:Int),zI (k.t:Int)]] W fun e w'=>e = .returned (zI 0)∧Below W.heap.size W w'):=fun W hW=>by
  have:=flaw_any k.c k.i k.a k.t W hW
  rwa [flaw_tok.2 hk] at this
 have HP:Hid (∀ W,TTab W→Calls Tryz.prog 87 #[.agg #[zI (k.c:Int),zI (k.i:Int),zI (k.a:Int),zI (k.t:Int)]] W fun e w'=>PackPost W k e w'):=fun W hW=>pack_any k W hk hW
 have HQ:Hid (∀ (x y z:Nat) W,WN x y z k.num→Calls Tryz.prog 186 #[.agg #[.int .u32 (x:Int),.int .u32 (y:Int),.int .u32 (z:Int)],zI 16,zI 43] W fun e w'=>e = .returned (.tuple #[.int .u64 (k.body:Int),zI 0])∧Below W.heap.size W w'):=fun x y z W hW=>by
  have:=bits_wn x y z 16 43 k.num W hW (by omega) (by omega) (by omega)
  rwa [show k.num / 2 ^ 16 % 2 ^ 43=k.body from body_num hk] at this
 have hwr:IntKind.i64.wrap (k.body:Int)=(k.body:Int):=wrap_i _ (by have:=body_bd hk;omega);have HT:Hid (TTab (w.alloc (.cells #[zI (k.c:Int),zI (k.i:Int),zI (k.a:Int),zI (k.t:Int)] 96))):=ht.below (bel_box _ _);have HB:Hid (Below w.heap.size w (w.alloc (.cells #[zI (k.c:Int),zI (k.i:Int),zI (k.a:Int),zI (k.t:Int)] 96))):=bel_box _ _;have HX:Hid (Blk (w.alloc (.cells #[zI (k.c:Int),zI (k.i:Int),zI (k.a:Int),zI (k.t:Int)] 96)) w.heap.size #[zI (k.c:Int),zI (k.i:Int),zI (k.a:Int),zI (k.t:Int)] 96):=Blk.new _ _ _;clear ht hk;unfold Tok.v;generalize (k.body:Int)=bd at *;go_enter Tryz.func162,Tryz.ntmps162;go_wp2_with fail;refine (HF.o _ HT.o).mono ?_;rintro e w1 ⟨rfl,hb1⟩;have HB1:=shB HB hb1;have HT1:Hid (TTab w1):=HT.o.below hb1;have hX:=HX.o.next hb1;have x0:=hX.cell 0;have x1:=hX.cell 1;have x2:=hX.cell 2;have x3:=hX.cell 3;clear hb1 HF HB HT HX hX;go_wp2_with fail;refine (HP.o _ HT1.o).mono ?_;rintro e w2 ⟨x,y,z,rfl,hwn,hb2⟩;have HB2:=shB HB1 hb2;have HN:Hid (WN x y z k.num):=hwn;clear hb2 hwn HB1 HT1 HP x0 x1 x2 x3;go_wp2_with fail;refine (HQ.o _ _ _ _ HN.o).mono ?_;rintro e w3 ⟨rfl,hb3⟩;have HB3:=shB HB2 hb3;clear hb3 HB2 HQ;go_wp2_with fail;refine bodyPost_ret (v:= .tuple #[zI bd,zI 0]) (by simp [results,Tryz.results162,go_sem]) rfl ⟨rfl,HB3.o⟩
end token
namespace vnd
open book (Ev ev0 EMay evL evOf EncIs DecIs Cm cm0 So so0 BookIs FirstAt NoneAt Tells)
open acc (Ac Tm Bi SellIs GrantIs RekeyIs OweIs)
open ora (Pr IssueIs)
open token (Tok fmtL)
theorem sell_tok {a:Ac} {t:Tm} {te m:Int} {b:Ac} {l:Bi} (h:SellIs a t te m b l 0):(1≤l.id∧l.id≤1048575)∧1≤l.un∧l.un≤2097151:=by
 rcases h with ⟨h,rfl,rfl⟩ | ⟨_,_,h,_⟩ | ⟨_,_,_,h,_⟩ | ⟨hr,ht,hn,_,u,hu,rfl,rfl⟩
 ·rcases h with ⟨_,h⟩ | ⟨_,h1,h2⟩ | ⟨_,_,_,h⟩
  ·cases h
  ·exact absurd (h2.ok.1 rfl) h1
  ·exact absurd rfl h.ne
 ·cases h
 ·cases h
 ·have h1:=hr.1.2.2.2.1.1;have h2:=hu.1;unfold tar.Top at h2;have h3:u≠0:=fun e=>ht.2.2 (by rw [← e];exact hu);refine ⟨⟨h1,hn⟩,?_,?_⟩
  ·show 1≤u;omega
  ·show u≤2097151;omega
theorem grant_tok {a:Ac} {t:Tm} {m:Int} {b:Ac} {l:Bi} (h:GrantIs a t m b l 0):(1≤l.id∧l.id≤1048575)∧1≤l.un∧l.un≤2097151:=by
 rcases h with ⟨h,rfl,rfl⟩ | ⟨_,_,h,_⟩ | ⟨_,_,_,h,_⟩ | ⟨_,_,_,_,h,_⟩ | ⟨hr,ha,_,hn,_,rfl,rfl⟩
 ·rcases h with ⟨_,h⟩ | ⟨_,h1,h2⟩ | ⟨_,_,_,h⟩
  ·cases h
  ·exact absurd (h2.ok.1 rfl) h1
  ·exact absurd rfl h.ne
 ·cases h
 ·cases h
 ·cases h
 ·have h1:=hr.1.2.2.2.1.1;have h2:=hr.2.1.2.2.2.2;refine ⟨⟨h1,hn⟩,?_,?_⟩
  ·show 1≤t.al;have:=h2.1;omega
  ·exact h2.2
theorem rekey_tok {a:Ac} {b:Ac} {l:Bi} (h:RekeyIs a b l 0):(1≤l.id∧l.id≤1048575)∧1≤a.rv+1∧a.rv+1≤15:=by
 rcases h with ⟨_,_,_,h⟩ | ⟨_,_,_,_,h⟩ | ⟨_,_,_,_,_,h⟩ | ⟨ha,hr,hn,rfl,rfl,_⟩
 ·cases h
 ·cases h
 ·cases h
 ·exact ⟨⟨ha.2.2.2.1.1,hn⟩,by have:=ha.2.2.1.1;omega,by omega⟩
theorem tokB_ok {kd rv:Int} {l:Bi} {tg:Int} (hk:kd≠4) (h:(1≤l.id∧l.id≤1048575)∧1≤l.un∧l.un≤2097151) (ht:0≤tg∧tg≤65535):(tokB kd rv l tg).ok∧(tokB kd rv l tg).v = .agg #[zI 0,zI l.id,zI l.un,zI tg]:=by
 have e:tokB kd rv l tg=⟨0,l.id.toNat,l.un.toNat,tg.toNat⟩:=by unfold tokB;rw [if_neg hk]
 rw [e];refine ⟨⟨by show (0:Nat)≤3;omega,?_,?_,?_,?_,fun _=>?_,(fun h=>by cases h),fun h=>by rcases h with h | h <;> cases h⟩,?_⟩
 ·show 1≤l.id.toNat;omega
 ·show l.id.toNat≤1048575;omega
 ·show tg.toNat≤65535;omega
 ·show l.un.toNat≤2097151;omega
 ·show 1≤l.un.toNat;omega
 ·unfold token.Tok.v;show Value.agg #[zI ((0:Nat):Int),zI (l.id.toNat:Int),zI (l.un.toNat:Int),zI (tg.toNat:Int)]=_;rw [Int.toNat_of_nonneg (by omega),Int.toNat_of_nonneg (by omega),Int.toNat_of_nonneg ht.1];rfl
theorem tokB_ok4 {rv:Int} {l:Bi} {tg:Int} (h:(1≤l.id∧l.id≤1048575)∧1≤rv+1∧rv+1≤15) (ht:0≤tg∧tg≤65535):(tokB 4 rv l tg).ok∧(tokB 4 rv l tg).v = .agg #[zI 2,zI l.id,zI (rv+1),zI tg]:=by
 have e:tokB 4 rv l tg=⟨2,l.id.toNat,(rv+1).toNat,tg.toNat⟩:=by unfold tokB;rw [if_pos rfl]
 rw [e];refine ⟨⟨by show (2:Nat)≤3;omega,?_,?_,?_,?_,(fun h=>by cases h),fun _=>⟨?_,?_⟩,fun h=>by rcases h with h | h <;> cases h⟩,?_⟩
 ·show 1≤l.id.toNat;omega
 ·show l.id.toNat≤1048575;omega
 ·show tg.toNat≤65535;omega
 ·show (rv+1).toNat≤2097151;omega
 ·show 1≤(rv+1).toNat;omega
 ·show (rv+1).toNat≤15;omega
 ·unfold token.Tok.v;show Value.agg #[zI ((2:Nat):Int),zI (l.id.toNat:Int),zI ((rv+1).toNat:Int),zI (tg.toNat:Int)]=_;rw [Int.toNat_of_nonneg (by omega),Int.toNat_of_nonneg (by omega),Int.toNat_of_nonneg ht.1];rfl
theorem issue_tag {l ls:List Pr} {m r b d x:Int} (h:IssueIs l m r b d ls x 0):0≤x∧x≤65535:=by
 rcases h with ⟨_,_,_,h⟩ | ⟨_,_,_,_,h⟩ | ⟨hm,hp,⟨i,hi,rfl⟩,_,_⟩ | ⟨_,_,_,_,_,_,h⟩ | ⟨_,hp,_,_,_,rfl,_⟩
 ·cases h
 ·cases h
 ·exact (hm.each i hi.lt).1.2.2.2
 ·cases h
 ·exact hp.2.2.2
end vnd
namespace disk
open Go.RowKit cell
theorem nothing_done (v:Value) (w:World):Calls Tryz.prog 154 #[v] w fun e w'=>e = .returned (.tuple #[])∧w'=w:=by
 go_enter Tryz.func154,Tryz.ntmps154;go_wp2_with fail;go_end0;exact ⟨rfl,rfl⟩
theorem kappend:KAppend:=by
 intro w a n cap c b m cap2 r h hnil hcap hby hw h2 hnil2 hcap2 hby2 hw2;have hrl:=h2.1;by_cases hmay:1≤m∧m≤64
 ·have HE:Hid (Calls Tryz.prog 62 #[.slice a n cap,.func (.func 154) #[] #[]] w fun e w'=>EPost (fun _ W=>W=w) c e w'):=by
   refine each_any 154 #[] (fun _ W=>W=w) a n cap c w (fun k W hj=>by rw [hj];exact h) rfl hcap hw (fun _ _=>by kernel_rfl) ?_;intro k p m b o W hj hp hit hr h1 h2 h3;refine (nothing_done _ W).mono ?_;rintro e w' ⟨rfl,rfl⟩;exact ⟨rfl,hj⟩
  have HMY:Hid (RMay r):=⟨by omega,by omega⟩
  have HN:Hid (c.length=n∧r.length=m):=⟨h.1,hrl⟩
  have HL:Hid (∀ p:Nat,p≤2048→n≤2048→Calls Tryz.prog 155 #[.slice b m cap2,zI (p:Int),zI (n:Int)] w fun e w'=>∃ V,e = .returned V∧Lw w' w.heap.size V (appW c p r)∧Below w.heap.size w w'):=fun p hp hn=>laying_any b m cap2 r c p n w h2 hmay.1 hmay.2 hp hn h.1;obtain ⟨hm1,hm2⟩:=hmay;have d1:decide ((m:Int)<1)=false:=by simp;omega
  have d2:decide ((64:Int)<(m:Int))=false:=by simp;omega
  clear h hnil hcap hby hw h2 hnil2 hcap2 hby2 hw2 hrl;go_enter Tryz.func108,Tryz.ntmps108;go_wp2_with fail;refine HE.o.mono ?_;rintro e w1 ⟨x,f,k,rfl,hj,hi⟩;subst hj;have HI:Hid ((¬ May c∧x=0∧f=1)∨(May c∧lenAt c (repD c).2<0∧x=0∧f=3)∨(May c∧lenAt c (repD c).2=0∧repD c=itD c k∧x=((repD c).2:Int)∧f=0)):=hi;clear hi HE d1 d2;by_cases hf:f=0
  ·obtain ⟨hmy,hl0,hx⟩:May c∧lenAt c (repD c).2=0∧x=((repD c).2:Int):=by
    rcases HI.o with ⟨_,_,e⟩ | ⟨_,_,_,e⟩ | ⟨q1,q2,_,q4,_⟩
    ·rw [hf] at e;exact absurd e (by decide)
    ·rw [hf] at e;exact absurd e (by decide)
    ·exact ⟨q1,q2,q4⟩
   have HPB:Hid ((repD c).2≤n):=by show _≤_;rw [← HN.o.1];exact rep_bound c
   have HFU:Hid (n≤(repD c).2+m→AppIs c r [] 16):=fun hh=> .inr (.inr (.inr (.inl ⟨HMY.o,hmy,hl0,by rw [HN.o.1,HN.o.2];exact hh,rfl,rfl⟩)));have HOK:Hid ((repD c).2+m<n→AppIs c r (appW c (repD c).2 r) 0):=fun hh=> .inr (.inr (.inr (.inr ⟨HMY.o,hmy,hl0,by rw [HN.o.1,HN.o.2];exact hh,rfl,rfl⟩)));have hn2:n≤2048:=by have:=hmy.2;rw [HN.o.1] at this;exact this
   subst hf;subst hx;clear HI hmy hl0 HMY;generalize (repD c).2=p at *;have hpn:=HPB.o;clear HPB;by_cases hfu:n≤p+m
   ·have HA:Hid (AppIs c r [] 16):=HFU.o hfu;have e1:decide ((n:Int)<(p:Int)+1+(m:Int))=true:=by simp;omega
    clear HFU HOK HL;go_wp2_with fail;go_ret2;exact ⟨none,0,0,[],16,rfl,RowW.nil _ _,(fun x hx=>by cases hx),Nat.le_refl _,Nat.zero_le _,HA.o,Below.refl _ _⟩
   ·have HA:Hid (AppIs c r (appW c p r) 0):=HOK.o (by omega);have e1:decide ((n:Int)<(p:Int)+1+(m:Int))=false:=by simp;omega
    have HL1:=HL.o p (by omega) hn2;have HLY:Hid (Calls Tryz.prog 155 #[.slice b m cap2,zI (p:Int),zI (n:Int)] w1 fun e w'=>∃ V,e = .returned V∧Lw w' w1.heap.size V (appW c p r)∧Below w1.heap.size w1 w'):=HL1;clear HFU HOK HL HL1;go_wp2_with fail;refine HLY.o.mono ?_;rintro e w2 ⟨V,rfl,hlw,hb⟩;obtain ⟨va,vc,rfl,hrow,_,hle,_⟩:=hlw.row
    have HNW:Hid (∀ x,va=some x→w1.heap.size≤x.block):=fun x hx=>by
     subst hx;exact (World.ownsRow.lt hlw x.block rfl).1
    have HRW:Hid (RowW w2 va (appW c p r).length (appW c p r)):=hrow;have HLE:Hid ((appW c p r).length≤vc):=hle;have HFW:Hid ((appW c p r).length≤100000):=Nat.le_trans (app_few HA.o) (by decide);have HB2:Hid (Below w1.heap.size w1 w2):=hb;clear hlw hb hrow hle HLY;generalize appW c p r=ls at *;generalize hzl:ls.length=zl at *;clear hzl;go_wp2_with fail;go_ret2;exact ⟨va,_,vc,ls,0,rfl,HRW.o,HNW.o,HLE.o,HFW.o,HA.o,HB2.o⟩
  ·have HA:Hid (AppIs c r [] f):=by
    rcases HI.o with ⟨q1,_,rfl⟩ | ⟨q1,q2,_,rfl⟩ | ⟨_,_,_,_,e⟩
    ·exact .inr (.inl ⟨HMY.o,q1,rfl,rfl⟩)
    ·exact .inr (.inr (.inl ⟨HMY.o,q1,q2,rfl,rfl⟩))
    ·exact absurd e hf
   have hne:(f != 0)=true:=by simpa using hf
   clear HI hf HL;go_wp2_with fail;go_ret2;exact ⟨none,0,0,[],f,rfl,RowW.nil _ _,(fun x hx=>by cases hx),Nat.le_refl _,Nat.zero_le _,HA.o,Below.refl _ _⟩
 ·have HA:Hid (AppIs c r [] 1):= .inl ⟨fun h=>hmay ⟨by rw [← hrl];exact h.1,by rw [← hrl];exact h.2⟩,rfl,rfl⟩;clear h hnil hcap hby hw h2 hnil2 hcap2 hby2 hw2 hrl;go_enter Tryz.func108,Tryz.ntmps108;by_cases h1:1≤m
  ·have d1:decide ((m:Int)<1)=false:=by simp;omega
   have d2:decide ((64:Int)<(m:Int))=true:=by simp;omega
   go_wp2_with fail;go_ret2;exact ⟨none,0,0,[],1,rfl,RowW.nil _ _,(fun x hx=>by cases hx),Nat.le_refl _,Nat.zero_le _,HA.o,Below.refl _ _⟩
  ·have d1:decide ((m:Int)<1)=true:=by simp;omega
   go_wp2_with fail;go_ret2;exact ⟨none,0,0,[],1,rfl,RowW.nil _ _,(fun x hx=>by cases hx),Nat.le_refl _,Nat.zero_le _,HA.o,Below.refl _ _⟩
end disk
namespace vnd
open disk (RepIs AppIs)
open book (Ev ev0 EMay evL evOf EncIs DecIs Cm cm0 So so0 BookIs Sees ECame FirstAt NoneAt)
open acc (Ac Tm Bi TCame ACame)
open cell (Wr RowU)
open Go.RowKit
theorem enc_yes {v:Ev} {ws:List Int} {g:Int} (h:EncIs v ws g) (hv:EMay v):(∀ x∈ws,0≤x∧x<4294967296)∧g=0:=by
 rcases h with ⟨_,rfl,rfl⟩ | ⟨n,_⟩
 ·exact ⟨book.may_word hv,rfl⟩
 ·exact absurd hv n
theorem pkeep (p2:Option Addr) (m2 c2:Nat) (a:Option Addr) (n cap:Nat) (c:List Int) (l:List Ev) (v:Ev) (w:World) (h:Dk w a n cap c) (hk:KeptIs c l 0) (hl:l.length≤120) (hv:EMay v):Calls Tryz.prog 61 #[.agg #[.slice p2 m2 c2,.slice a n cap,zI (l.length:Int)],.agg #[zI v.kd,zI v.me,zI v.mo,zI v.id,zI v.te,zI v.de,zI v.fe,zI v.pr,zI v.ch,zI v.un,zI v.tg,zI v.ow,zI v.bp]] w fun e w'=>WrGot w (KeepIs c v) e w':=by
 have HC:Hid (∀ W,Below w.heap.size w W→Dk W a n cap c):=fun W hW=>h.below hW;have HKI:Hid (KeptIs c l 0):=hk;have HV:Hid (EMay v):=hv;clear h hk hv;obtain ⟨W0,HWW,H0s,H0v,H0B,hs0⟩:=sh2 w #[.slice p2 m2 c2,.slice a n cap,zI (l.length:Int)] 87 #[zI v.kd,zI v.me,zI v.mo,zI v.id,zI v.te,zI v.de,zI v.fe,zI v.pr,zI v.ch,zI v.un,zI v.tg,zI v.ow,zI v.bp] 72;go_enter Tryz.func61,Tryz.ntmps61;go_upto_region 1 with fail
 rw [HWW.o];clear HWW;by_cases h1:l.length=120
 ·have d1:((l.length:Int) == 120)=true:=by simp;omega
  have HF:Hid (KeepIs c v [] 16):=⟨l,0,HKI.o,.inl ⟨by omega,rfl,rfl⟩⟩
  clear h1;have qs2:W0.cell? ⟨w.heap.size,2,none⟩=some (zI (l.length:Int)):=H0s.o.cell 2
  go_wp2_with (first
   | (refine zqw rfl rfl rfl H0s zqu87 ?_)
   | (refine zqw rfl rfl rfl H0v zqu72 ?_)
   | fail)
  go_ret2;exact ⟨none,0,0,[],16,rfl,HF.o,⟨rfl,.inl rfl⟩,(fun x hx=>by cases hx),Nat.le_refl _,Nat.zero_le _,H0B.o⟩
 ·have d1:((l.length:Int) == 120)=false:=by simp;omega
  have hl2:Hid (l.length<120):=(by omega:l.length<120)
  clear h1 hl;have HEN:Hid (Calls Tryz.prog 107 #[.agg #[zI v.kd,zI v.me,zI v.mo,zI v.id,zI v.te,zI v.de,zI v.fe,zI v.pr,zI v.ch,zI v.un,zI v.tg,zI v.ow,zI v.bp]] W0 fun e w'=>book.EncGot W0 v e w'):=book.kenc W0 v (book.wf_may HV.o);have qs2:W0.cell? ⟨w.heap.size,2,none⟩=some (zI (l.length:Int)):=H0s.o.cell 2
  go_wp2_with (first
   | (refine zqw rfl rfl rfl H0s zqu87 ?_)
   | (refine zqw rfl rfl rfl H0v zqu72 ?_)
   | fail)
  refine HEN.o.mono ?_;rintro e w1 ⟨ra,rn,rc,ws,g,rfl,hen,hrw,hrn,hrc,hr13,hb1⟩;have H1s:=shN H0s hb1;have H1v:=shN H0v hb1;have H1B:=shB H0B hb1;have hsw1:W0.heap.size≤w1.heap.size:=hb1.size;clear hb1 H0s H0v H0B;clear qs2;obtain ⟨hws,rfl⟩:=enc_yes hen HV.o;have HEI:Hid (EncIs v ws 0):=hen;clear hen HEN;have HAP:Hid (Calls Tryz.prog 108 #[.slice a n cap,.slice ra rn rc] w1 fun e w'=>disk.AppGot w1 c ws e w'):=(fun d:Dk w1 a n cap c=>disk.kappend w1 a n cap c ra rn rc ws d.row d.nil d.room d.bytes d.wd hrw hrn hrc (by omega) hws) (HC.o _ H1B.o)
  clear hrw hrn hrc hws;have qs1:w1.cell? ⟨w.heap.size,1,none⟩=some (.slice a n cap):=H1s.o.cell 1
  go_wp2_with (first
   | (refine zqw rfl rfl rfl H1s zqu87 ?_)
   | (refine zqw rfl rfl rfl H1v zqu72 ?_)
   | fail)
  refine HAP.o.mono ?_;rintro e w2 ⟨p3,m3,c3,ls,f3,rfl,hrow,hnew,hle,hsm,hai,hb2⟩;have H2s:=shN H1s hb2;have H2v:=shN H1v hb2;have H2B:=shB H1B hb2;have hsw2:w1.heap.size≤w2.heap.size:=hb2.size;clear hb2 H1s H1v H1B;clear qs1;have HF:Hid (KeepIs c v ls f3):=⟨l,0,HKI.o,.inr ⟨hl2.o,ws,0,HEI.o,.inr ⟨rfl,hai⟩⟩⟩
  have HRW:Hid (cell.RowW w2 p3 m3 ls):=hrow;have HNW:Hid (∀ x,p3=some x→w.heap.size≤x.block):=fun x hx=>Nat.le_trans (by omega) (hnew x hx);clear hrow hnew hai HAP HEI HKI HC hl2;go_wp2_with fail;go_ret2;exact ⟨p3,m3,c3,ls,f3,rfl,HF.o,HRW.o,HNW.o,hle,hsm,H2B.o⟩
end vnd
namespace token
open words
open Go.RowKit
theorem str_list (ns:List Int):(strOf ns).data.toList=ns.map byt:=by
 have h:∀ (ns:List Int) (r:ByteArray),(ns.foldl (fun r n=>r.push (UInt8.ofNat n.toNat)) r).data.toList=r.data.toList++ns.map byt:=by
  intro ns
  induction ns with
  | nil=>intro r;simp
  | cons x l ih=>intro r;rw [List.foldl_cons,ih];simp [ByteArray.push,byt]
 have:=h ns ByteArray.empty;simpa [strOf] using this
theorem str_size (ns:List Int):(strOf ns).size=ns.length:=by
 rw [← check.len_eq,str_list];simp
theorem rep_list (n:Nat):Lib.repeatL [48] n=List.replicate n 48:=by
 induction n with
 | zero=>rfl
 | succ n ih=>rw [Lib.repeatL,ih];rfl
theorem bytes_ext {a b:ByteArray} (h:a.data.toList=b.data.toList):a=b:=by
 cases a;cases b;congr 1;exact Array.toList_inj.1 h
theorem pad_fmt (V n:Nat) (h:n+(decL V).length=20):(⟨(Lib.repeatL [48] n).toArray⟩:ByteArray)++strOf (decL V)=fmtB V:=by
 apply bytes_ext;rw [fmtB_list,show ((⟨(Lib.repeatL [48] n).toArray⟩:ByteArray)++strOf (decL V)).data.toList=Lib.repeatL [48] n++(strOf (decL V)).data.toList by simp,str_list,rep_list];unfold fmtL;rw [show 20 - (decL V).length=n by omega]
theorem show_wn (a b c V:Nat) (w:World) (h:WN a b c V) :
  Calls Tryz.prog 53 #[.agg #[.int .u32 (a:Int),.int .u32 (b:Int),.int .u32 (c:Int)]] w fun e w'=>e = .returned (.string (strOf (decL V)))∧Below w.heap.size w w':=by
 have hk:=wn_ok h;have:=show_any ⟨a,b,c⟩ w hk.1
 rwa [hk.2,Int.toNat_natCast] at this
theorem format_ok (k:Tok) (w:World) (ht:TTab w) (hk:k.ok) :
  Calls Tryz.prog 27 #[k.v] w fun e w'=>e = .returned (.tuple #[.string (fmtB (97*k.num)),zI 0])∧Below w.heap.size w w':=by
 have HF:Hid (∀ W,TTab W→Calls Tryz.prog 52 #[.agg #[zI (k.c:Int),zI (k.i:Int),zI (k.a:Int),zI (k.t:Int)]] W fun e w'=>WordsPost W k e w'):=fun W hW=>words_ok k W hW hk;have hnb:=num_bd hk;have hln:=dec_len20 (V:=k.num*97) (by omega);have hsz:=str_size (decL (k.num*97));have HSh:Hid (∀ (a b c:Nat) W,WN a b c (k.num*97)→Calls Tryz.prog 53 #[.agg #[.int .u32 (a:Int),.int .u32 (b:Int),.int .u32 (c:Int)]] W fun e w'=>e = .returned (.string (strOf (decL (k.num*97))))∧Below W.heap.size W w'):=fun a b c W hW=>show_wn a b c _ W hW;obtain ⟨n,hn⟩:∃ n:Nat,n+(decL (k.num*97)).length=20:=⟨20 - (decL (k.num*97)).length,by omega⟩
 have HRp:Hid (∀ W,Calls Tryz.prog 54 #[.string ⟨#[48]⟩,zI (n:Int)] W fun e w'=>e = .returned (.string ⟨(Lib.repeatL [48] n).toArray⟩)∧Below W.heap.size W w'):=fun W=>Tryz.strings_Repeat ⟨#[48]⟩ n W (by omega) (by show 1*n≤_;omega)
 have HX:Hid ((⟨(Lib.repeatL [48] n).toArray⟩:ByteArray)++strOf (decL (k.num*97))=fmtB (97*k.num)):=by
  show _=_;rw [pad_fmt _ _ hn,Nat.mul_comm]
 have hzz:(⟨(Lib.repeatL [48] n).toArray⟩:ByteArray).size=n:=by
  show (Lib.repeatL [48] n).toArray.size=n;rw [rep_list];simp
 have HT:Hid (TTab (w.alloc (.cells #[zI (k.c:Int),zI (k.i:Int),zI (k.a:Int),zI (k.t:Int)] 96))):=ht.below (bel_box _ _);have HB:Hid (Below w.heap.size w (w.alloc (.cells #[zI (k.c:Int),zI (k.i:Int),zI (k.a:Int),zI (k.t:Int)] 96))):=bel_box _ _;rw [← hsz] at hn hln;clear ht hk hnb hsz;generalize strOf (decL (k.num*97))=D at *;generalize (⟨(Lib.repeatL [48] n).toArray⟩:ByteArray)=Z at *;have hds:(20:Int) - (D.size:Int)=(n:Int):=by omega
 unfold Tok.v;go_enter Tryz.func27,Tryz.ntmps27;go_wp2_with fail;refine (HF.o _ HT.o).mono ?_;rintro e w1 ⟨a,b,c,rfl,hwn,hb1⟩;have hN:=Blk.new w1 #[.int .u32 (a:Int),.int .u32 (b:Int),.int .u32 (c:Int)] 131;have HB1:Hid (Below w.heap.size w (w1.alloc (.cells #[.int .u32 (a:Int),.int .u32 (b:Int),.int .u32 (c:Int)] 131))):=(bel_step HB.o hb1).alloc (bel_step HB.o hb1).size _;have HW:Hid (WN a b c (k.num*97)):=hwn;have c0:=hN.cell 0;have c1:=hN.cell 1;have c2:=hN.cell 2;clear hb1 HF HB HT hwn hN;go_wp2_with fail;refine (HSh.o _ _ _ _ HW.o).mono ?_;rintro e w2 ⟨rfl,hb2⟩;have HB2:=shB HB1 hb2;clear hb2 HSh HB1 HW c0 c1 c2;go_wp2_with fail;refine (HRp.o _).mono ?_;rintro e w3 ⟨rfl,hb3⟩;have HB3:=shB HB2 hb3;clear hb3 HRp HB2;go_wp2_with fail;refine bodyPost_ret (v:= .tuple #[.string (Z++D),zI 0]) (by simp [results,Tryz.results27,go_sem]) rfl ⟨by rw [HX.o],HB3.o⟩
end token
end Go.Proofs.YtnpblpbohcegoaaGreatDoor
