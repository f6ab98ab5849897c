import Derived.Test.YtnpblpbohcegoaaGreatDoorVBNrs20
import Derived.Test.YtnpblpbohcegoaaGreatDoorVBNrs21
import Derived.Test.YtnpblpbohcegoaaGreatDoorVBNrs28
import Derived.Test.YtnpblpbohcegoaaGreatDoorVBNrs31
set_option linter.unusedVariables false
set_option linter.unusedSimpArgs false
set_option maxHeartbeats 4000000
set_option maxRecDepth 100000
namespace Go.Proofs.YtnpblpbohcegoaaGreatDoor
namespace vnd
open book (Ev ev0 Cm cm0 So so0 Sees)
open acc (Ac Tm Bi)
open ora (Pr)
open cell (Wr RowU RowW)
open rcp (Rc rc0)
open Go.RowKit
theorem served_any {w:World} (K0:KvCha) (K1:KvGrant w) (K2:KvRekey w) (K3:KvSell w) (t:Tm) (pt:Option Addr) (lt ct:Nat) (a:Option Addr) (n cap:Nat) (c:List Int) (ao:Option Addr) (no ko:Nat) (o:List Pr) (x:Od) (ht:acc.TCame w t pt lt ct) (h:Dk w a n cap c) (ho:ora.Came w ao no ko o) (hx:wf5 x):Calls Tryz.prog 21 #[.agg #[.slice pt lt ct,zI t.ff,zI t.fb,zI t.db,zI t.al,.slice a n cap,.slice ao no ko],.agg #[zI x.k,zI x.m,zI x.a,zI x.b,zI x.d]] w fun e w'=>ServePost w ao no (ServedIs t c o x) e w':=by
 by_cases h0:check.pick x.k 8=0
 ·exact served0 K0 t pt lt ct a n cap c ao no ko o x w ht h ho hx h0
 ·by_cases h1:check.pick x.k 8=1
  ·exact served1 K1 t pt lt ct a n cap c ao no ko o x ht h ho hx h1
  ·by_cases h2:check.pick x.k 8=2
   ·exact served2 K2 t pt lt ct a n cap c ao no ko o x ht h ho hx h2
   ·exact served3 K3 t pt lt ct a n cap c ao no ko o x ht h ho hx ⟨h0,h1,h2⟩
open disk (RepIs AppIs May repD lenAt appW)
open book (EMay evL evOf EncIs DecIs BookIs FirstAt NoneAt Tells billOf soldOf StepIs HapIs)
open acc (SellIs GrantIs RekeyIs OweIs)
open ora (IssueIs)
open cell (wrt)
def Three (bk:List Cm):Prop:=bk.length=3∧∀ i,i<3→(bk.getD i cm0).a.me=(i:Int)
theorem three_set {t:Tm} {bk:List Cm} {v:Ev} {k:Nat} {x:Cm} (h:Three bk) (hs:StepIs t bk v (bk.set k x) 0):Three (bk.set k x):=by
 have hg:=step_grows hs;refine ⟨by rw [List.length_set];exact h.1,fun i hi=>?_⟩;rw [(hg.2 i (by rw [h.1];exact hi)).1];exact h.2 i hi
theorem app_ne (c:List Int) (e:Nat) (v:Ev):appW c e (evL v)≠[]:=fun h=>by
 have:=disk.app_len c e (evL v);rw [h,book.evL_len] at this;simp only [List.length_nil] at this;split at this <;> omega
structure Stepped (t:Tm) (c:List Int) (n:Nat) (l:List Ev) (bk:List Cm) (v:Ev) (bk':List Cm) (ls:List Wr):Prop where
 ev:EMay v
 step:StepIs t bk v bk' 0
 keep:KeepIs c v ls 0
 some:ls≠[]
 whole:Shop t (wrt c ls) n (l++[v]) bk'
 torn:∀ k,k<ls.length→Shop t (wrt c (ls.take k)) n l bk
theorem stepped {t:Tm} {c:List Int} {n:Nat} {l:List Ev} {bk bk':List Cm} {v:Ev} {ls:List Wr} (h:Shop t c n l bk) (hn:l.length<120) (hf:14*l.length+13<n) (hv:EMay v) (hs:StepIs t bk v bk' 0) (hk:KeepIs c v ls 0):Stepped t c n l bk v bk' ls:=by
 obtain ⟨e,h1,h2⟩:=h.next hn hf hv hs hk;exact ⟨hv,hs,hk,by rw [e];exact app_ne _ _ _,h1,h2⟩
theorem serve_step {t:Tm} {c:List Int} {n:Nat} {l:List Ev} {bk:List Cm} {o:List Pr} {x:Od} {ls:List Wr} {o':List Pr} {r:Rc} (h:Shop t c n l bk) (h3:Three bk) (hn:l.length<120) (hf:14*l.length+13<n) (hs:ServedIs t c o x ls o' r 0):∃ v bk',Stepped t c n l bk v bk' ls∧Three bk':=by
 rcases hs with ⟨_,hc,_,_⟩ | ⟨_,hc⟩ | ⟨_,hc⟩ | ⟨_,hc⟩
 ·obtain ⟨k,b,_,hv,hst,hke⟩:=cha_step h.load hc;exact ⟨_,_,stepped h hn hf hv hst hke,three_set h3 hst⟩
 ·obtain ⟨k,b,l2,tg,_,_,_,hv,hst,hke,_⟩:=tok_step (.inr (.inl rfl)) h.load hc;exact ⟨_,_,stepped h hn hf hv hst hke,three_set h3 hst⟩
 ·obtain ⟨k,b,l2,tg,_,_,_,hv,hst,hke,_⟩:=tok_step (.inr (.inr ⟨rfl,rfl⟩)) h.load hc;exact ⟨_,_,stepped h hn hf hv hst hke,three_set h3 hst⟩
 ·obtain ⟨k,b,l2,tg,_,_,_,hv,hst,hke,_⟩:=tok_step (.inl rfl) h.load hc;exact ⟨_,_,stepped h hn hf hv hst hke,three_set h3 hst⟩
theorem shop_blank {t:Tm} (ht:acc.TRight t) {n:Nat} (h0:1≤n) (h1:n≤2048):Shop t (List.replicate n 0) n [] []:=
 ⟨List.length_replicate,disk.Tape.blank h0 h1,(fun v hv=>by cases hv),.inr (.inr ⟨ht,by simp,0,fun _=>[],rfl,(fun i hi=>absurd hi (Nat.not_lt_zero _)),.inl ⟨rfl,rfl,rfl,rfl⟩⟩)⟩
def Regs (bk:List Cm) (k:Nat):Prop:=bk.length=k∧∀ i,i<k→(bk.getD i cm0).a.me=(i:Int)
theorem Regs.none {bk:List Cm} {k:Nat} (h:Regs bk k):NoneAt bk (k:Int):=fun j hj=>by
 rw [h.1] at hj;rw [h.2 j hj];omega
theorem Regs.next {bk:List Cm} {k:Nat} (h:Regs bk k) (so:List So):Regs (bk++[⟨⟨(k:Int),0,1,0,0,-1,[]⟩,so⟩]) (k+1):=by
 refine ⟨by rw [List.length_append,h.1];rfl,fun i hi=>?_⟩;by_cases e:i<bk.length
 ·rw [getD_appC _ _ _ e];exact h.2 i (by rw [← h.1];exact e)
 ·obtain rfl:i=bk.length:=by have:=h.1;omega
  have:(bk++[(⟨⟨(k:Int),0,1,0,0,-1,[]⟩,so⟩:Cm)]).getD bk.length cm0=⟨⟨(k:Int),0,1,0,0,-1,[]⟩,so⟩:=by simp [List.getD]
  rw [this];show (k:Int)=_;rw [h.1]
theorem reg_yes {t:Tm} {c:List Int} {n:Nat} {l:List Ev} {bk:List Cm} {k:Nat} {ls:List Wr} {f:Int} (h:Shop t c n l bk) (hr:Regs bk k) (hk:k<50) (hn:l.length<120) (hf:14*l.length+13<n) (hs:RegIs t c (k:Int) ls f):f=0∧Stepped t c n l bk (regE (k:Int)) (bk++[⟨⟨(k:Int),0,1,0,0,-1,[]⟩,[]⟩]) ls:=by
 obtain ⟨bk',g,hl,hh⟩:=hs;obtain ⟨rfl,rfl⟩:=hl.one h.load;rcases hh with ⟨p,_⟩ | ⟨_,p,_⟩ | ⟨_,_,p,_⟩ | ⟨_,hm,hno,hke⟩
 ·exact absurd rfl p
 ·exact absurd ⟨by omega,by omega⟩ p
 ·exact absurd hr.none p
 ·have hev:EMay (regE (k:Int)):=⟨hm,.inl ⟨rfl,rfl,rfl,rfl,rfl,rfl,rfl,rfl,rfl,rfl,rfl,rfl⟩⟩
  obtain ⟨_,rfl⟩:=keep_tape h.tape h.may hev hn (by rw [h.len];exact hf) hke;exact ⟨rfl,stepped h hn hf hev (.inr (.inr (.inl ⟨hev,rfl,hno,rfl,rfl⟩))) hke⟩
end vnd
namespace cell
open Go.RowKit
theorem apply_cap (a b:Option Addr) (n m c1 c2 k:Nat) (xs:List Int) (ls:List Wr) (w:World) (h1:RowU w a n xs) (h2:RowW w b m ls) (hn:1≤n) (hn2:n≤2048) (hm:m≤4096) (hc:m≤c2) (hall:allN n ls=true) (hk:k≤m) :
  Calls Tryz.prog 22 #[.slice a n c1,.slice b m c2,zI (k:Int)] w fun e w'=>GaveC w (wrt xs (ls.take k)) 0 e w':=by
 have HM:Hid (∀ W,Calls Tryz.prog 46 #[zI (n:Int)] W fun e w'=>e = .returned (.bool true)∧w'=W):=fun W=>may_yes _ W (by omega) (by omega);have hW:=Blk.new w #[.slice a n c1] 25;have HB:Hid (Below w.heap.size w (w.alloc (.cells #[.slice a n c1] 25))):=(Below.refl _ _).alloc (Nat.le_refl _) _;have hx:=hW.cell 0;have HX:Hid (∀ W',Below (w.alloc (.cells #[.slice a n c1] 25)).heap.size (w.alloc (.cells #[.slice a n c1] 25)) W'→W'.cell? ⟨w.heap.size,0,none⟩=some (.slice a n c1)):=fun W' hb=>(hW.next hb).cell 0
 have HC:Hid (Calls Tryz.prog 48 #[.slice b m c2,fv w.heap.size] (w.alloc (.cells #[.slice a n c1] 25)) fun e w'=>e = .returned (.bool false)∧Below (w.alloc (.cells #[.slice a n c1] 25)).heap.size (w.alloc (.cells #[.slice a n c1] 25)) w'):=by
  have h:=contains_any w.heap.size n c1 m c2 a b ls (w.alloc (.cells #[.slice a n c1] 25)) hx hn2 (h2.below HB.o) hm;rw [hall] at h;exact h
 have HW:Hid (∀ W,Below w.heap.size w W→Calls Tryz.prog 49 #[.slice a n c1,.slice b k k] W fun e w'=>∃ g,e = .returned (.slice (some ⟨g,0,none⟩) n n)∧RowU w' (some ⟨g,0,none⟩) n (wrt xs (ls.take k))∧Below W.heap.size W w'):=fun W hb=>
  written_any a b n k c1 k xs (ls.take k) W (h1.below hb) ((h2.below hb).cut hk) hn hn2 (by omega) (allN_take hall k)
 clear h1 h2 hall hW;unfold fv at HC;generalize wrt xs (ls.take k)=zs at *;go_enter Tryz.func22,Tryz.ntmps22;go_wp2_with fail;refine (HM.o _).mono ?_;rintro e w1 ⟨rfl,rfl⟩;go_wp2_with fail;refine HC.o.mono ?_;rintro e w2 ⟨rfl,hb2⟩;have hx2:=HX.o _ hb2;have HB2:=shB HB hb2;have HWD:Hid (Calls Tryz.prog 49 #[.slice a n c1,.slice b k k] w2.drew fun e w'=>∃ g,e = .returned (.slice (some ⟨g,0,none⟩) n n)∧RowU w' (some ⟨g,0,none⟩) n zs∧Below w2.heap.size w2.drew w'):=HW.o _ HB2.o.drew;have KS:Hid (w2.drew.cell? ⟨w.heap.size,0,none⟩=some (.slice a n c1)):=hx2;have hGl:w.heap.size<w2.drew.heap.size:=World.block_lt_of_cell? w2 _ hx2;have HGL:Hid (w.heap.size<w2.heap.size):=hGl;clear hb2 hx HC HM HX HW hGl;have hkc:k≤c2:=by omega
 cases b with
 | none=>
  go_wp2_with fail
  go_region_held (fun v=>v.cell? ⟨w.heap.size,0,none⟩=some (.slice a n c1))
   (first | with_reducible exact KS.o | with_reducible exact K1.o)
   (first
    | (go_at_call 49;with_reducible refine HWD.o.mono ?_;rintro e w3 ⟨g,rfl,hr3,hb3⟩
       have K1:Hid (w3.cell? ⟨w.heap.size,0,none⟩=some (.slice a n c1)):=(hb3.cell (p:=⟨w.heap.size,0,none⟩) HGL.o).trans hx2;have HF:Hid (RowU w3 (some ⟨g,0,none⟩) n zs∧Below w.heap.size w w3):=⟨hr3,bel_step HB2.o.drew hb3⟩
       clear hr3 hb3))
  all_goals go_wp2_with fail
  all_goals
   go_ret2;exact GaveC.mk HF.o.1 (fun h=>by cases h) (Nat.le_refl _) HF.o.2
 | some y=>
  go_wp2_with fail
  go_region_held (fun v=>v.cell? ⟨w.heap.size,0,none⟩=some (.slice a n c1))
   (first | with_reducible exact KS.o | with_reducible exact K1.o)
   (first
    | (go_at_call 49;with_reducible refine HWD.o.mono ?_;rintro e w3 ⟨g,rfl,hr3,hb3⟩
       have K1:Hid (w3.cell? ⟨w.heap.size,0,none⟩=some (.slice a n c1)):=(hb3.cell (p:=⟨w.heap.size,0,none⟩) HGL.o).trans hx2;have HF:Hid (RowU w3 (some ⟨g,0,none⟩) n zs∧Below w.heap.size w w3):=⟨hr3,bel_step HB2.o.drew hb3⟩
       clear hr3 hb3))
  all_goals go_wp2_with fail
  all_goals
   go_ret2;exact GaveC.mk HF.o.1 (fun h=>by cases h) (Nat.le_refl _) HF.o.2
end cell
namespace token
open words
open Go.RowKit
theorem body_ok (k:Tok) (w:World) (ht:TTab w) (hk:k.ok) :
  Calls Tryz.prog 162 #[k.v] w fun e w'=>e = .returned (.tuple #[zI (k.body:Int),zI 0])∧Below w.heap.size w w':=by
 have HF:Hid (∀ W,TTab W→Calls Tryz.prog 85 #[.agg #[zI (k.c:Int),zI (k.i:Int),zI (k.a:Int),zI (k.t:Int)]] W fun e w'=>e = .returned (zI 0)∧Below W.heap.size W w'):=fun W hW=>by
  have:=flaw_any k.c k.i k.a k.t W hW
  rwa [flaw_tok.2 hk] at this
 have HP:Hid (∀ W,TTab W→Calls Tryz.prog 87 #[.agg #[zI (k.c:Int),zI (k.i:Int),zI (k.a:Int),zI (k.t:Int)]] W fun e w'=>PackPost W k e w'):=fun W hW=>pack_any k W hk hW
 have HQ:Hid (∀ (x y z:Nat) W,WN x y z k.num→Calls Tryz.prog 186 #[.agg #[.int .u32 (x:Int),.int .u32 (y:Int),.int .u32 (z:Int)],zI 16,zI 43] W fun e w'=>e = .returned (.tuple #[.int .u64 (k.body:Int),zI 0])∧Below W.heap.size W w'):=fun x y z W hW=>by
  have:=bits_wn x y z 16 43 k.num W hW (by omega) (by omega) (by omega)
  rwa [show k.num / 2 ^ 16 % 2 ^ 43=k.body from body_num hk] at this
 have hwr:IntKind.i64.wrap (k.body:Int)=(k.body:Int):=wrap_i _ (by have:=body_bd hk;omega);have HT:Hid (TTab (w.alloc (.cells #[zI (k.c:Int),zI (k.i:Int),zI (k.a:Int),zI (k.t:Int)] 96))):=ht.below (bel_box _ _);have HB:Hid (Below w.heap.size w (w.alloc (.cells #[zI (k.c:Int),zI (k.i:Int),zI (k.a:Int),zI (k.t:Int)] 96))):=bel_box _ _;have HX:Hid (Blk (w.alloc (.cells #[zI (k.c:Int),zI (k.i:Int),zI (k.a:Int),zI (k.t:Int)] 96)) w.heap.size #[zI (k.c:Int),zI (k.i:Int),zI (k.a:Int),zI (k.t:Int)] 96):=Blk.new _ _ _;clear ht hk;unfold Tok.v;generalize (k.body:Int)=bd at *;go_enter Tryz.func162,Tryz.ntmps162;go_wp2_with fail;refine (HF.o _ HT.o).mono ?_;rintro e w1 ⟨rfl,hb1⟩;have HB1:=shB HB hb1;have HT1:Hid (TTab w1):=HT.o.below hb1;have hX:=HX.o.next hb1;have x0:=hX.cell 0;have x1:=hX.cell 1;have x2:=hX.cell 2;have x3:=hX.cell 3;clear hb1 HF HB HT HX hX;go_wp2_with fail;refine (HP.o _ HT1.o).mono ?_;rintro e w2 ⟨x,y,z,rfl,hwn,hb2⟩;have HB2:=shB HB1 hb2;have HN:Hid (WN x y z k.num):=hwn;clear hb2 hwn HB1 HT1 HP x0 x1 x2 x3;go_wp2_with fail;refine (HQ.o _ _ _ _ HN.o).mono ?_;rintro e w3 ⟨rfl,hb3⟩;have HB3:=shB HB2 hb3;clear hb3 HB2 HQ;go_wp2_with fail;refine bodyPost_ret (v:= .tuple #[zI bd,zI 0]) (by simp [results,Tryz.results162,go_sem]) rfl ⟨rfl,HB3.o⟩
end token
namespace book
open Go.RowKit
def MustPost (w:World) (v:Ev) (e:Ending) (w':World):Prop:=((EMay v∧e = .returned (.tuple #[]))∨(¬ EMay v∧e = .panicked (thrown 5)))∧Below w.heap.size w w'
theorem eqEv_any (a b:Ev) (w:World):∃ B,(Op.equalIn 10000 72 (.agg a.cs) (.agg b.cs)).run Tryz.prog w = .ok B w∧(B=true↔a=b):=by
 obtain ⟨a0,a1,a2,a3,a4,a5,a6,a7,a8,a9,a10,a11,a12⟩:=a;obtain ⟨b0,b1,b2,b3,b4,b5,b6,b7,b8,b9,b10,b11,b12⟩:=b;refine ⟨_,eqEv 9997 a0 a1 a2 a3 a4 a5 a6 a7 a8 a9 a10 a11 a12 b0 b1 b2 b3 b4 b5 b6 b7 b8 b9 b10 b11 b12 w,?_⟩;rw [decide_eq_true_iff];constructor
 ·rintro ⟨rfl,rfl,rfl,rfl,rfl,rfl,rfl,rfl,rfl,rfl,rfl,rfl,rfl⟩;rfl
 ·intro h;cases h;exact ⟨rfl,rfl,rfl,rfl,rfl,rfl,rfl,rfl,rfl,rfl,rfl,rfl,rfl⟩
theorem bmust (v:Ev) (w:World):Calls Tryz.prog 67 #[.agg #[zI v.kd,zI v.me,zI v.mo,zI v.id,zI v.te,zI v.de,zI v.fe,zI v.pr,zI v.ch,zI v.un,zI v.tg,zI v.ow,zI v.bp]] w fun e w'=>MustPost w v e w':=by
 have HMI:Hid (EMay v↔(0≤v.me∧v.me≤49)∧KindR v∧leftE v=ev0):=may_iff v;obtain ⟨W0,HWW,HX0,HB0,-⟩:=sh1 w #[zI v.kd,zI v.me,zI v.mo,zI v.id,zI v.te,zI v.de,zI v.fe,zI v.pr,zI v.ch,zI v.un,zI v.tg,zI v.ow,zI v.bp] 72;have HNO:Hid (∀ W,Calls Tryz.prog 112 #[zI 5] W fun e w'=>e = .panicked (thrown 5)∧w'=W):=fun W=>insist_no 5 (by decide) W;have HKR:Hid (∀ W,Calls Tryz.prog 110 #[.agg #[zI v.kd,zI v.me,zI v.mo,zI v.id,zI v.te,zI v.de,zI v.fe,zI v.pr,zI v.ch,zI v.un,zI v.tg,zI v.ow,zI v.bp]] W fun e w'=>YN W (KindR v) e w'):=fun W=>bkind v.kd v.me v.mo v.id v.te v.de v.fe v.pr v.ch v.un v.tg v.ow v.bp W;have HLE:Hid (∀ W,Calls Tryz.prog 111 #[.agg #[zI v.kd,zI v.me,zI v.mo,zI v.id,zI v.te,zI v.de,zI v.fe,zI v.pr,zI v.ch,zI v.un,zI v.tg,zI v.ow,zI v.bp]] W fun e w'=>e = .returned (leftE v).v∧Below W.heap.size W w'):=fun W=>bleft v W;go_enter Tryz.func67,Tryz.ntmps67;go_upto_region 1 with fail
 rw [HWW.o];clear HWW;obtain ⟨c0,c1,c2,c3,c4,c5,c6,c7,c8,c9,c10,c11,c12⟩:=scl13 HX0;have HW:Hid (Calls Tryz.prog 109 #[zI 0,zI 49,.slice (some ⟨W0.heap.size,0,none⟩) 1 1] (W0.alloc (.cells #[zI v.me] 3)) fun e w'=>e = .returned (.bool (decide (0≤v.me∧v.me≤49)))∧w'=(W0.alloc (.cells #[zI v.me] 3))):=bki.within_one 0 49 v.me W0 _ rfl;have HB1:Hid (Below w.heap.size w (W0.alloc (.cells #[zI v.me] 3))):=HB0.o.alloc HB0.o.size _;have HX1:Hid (Blk (W0.alloc (.cells #[zI v.me] 3)) w.heap.size #[zI v.kd,zI v.me,zI v.mo,zI v.id,zI v.te,zI v.de,zI v.fe,zI v.pr,zI v.ch,zI v.un,zI v.tg,zI v.ow,zI v.bp] 72):=HX0.o.alloc _;by_cases h0:0≤v.me∧v.me≤49
 case neg=>
  rw [decide_eq_false h0] at HW;have HN:Hid (¬ EMay v):=fun q=>h0 (HMI.o.1 q).1;clear h0;go_wp2_with fail;refine HW.o.mono ?_;rintro e W ⟨rfl,hw⟩;subst hw;clear HW;clear HX0 HB0 c0 c1 c2 c3 c4 c5 c6 c7 c8 c9 c10 c11 c12;generalize (W0.alloc (.cells #[zI v.me] 3))=W1 at *;obtain ⟨c0,c1,c2,c3,c4,c5,c6,c7,c8,c9,c10,c11,c12⟩:=scl13 HX1;go_wp2_with fail;refine (HNO.o _).mono ?_;rintro e W9 ⟨rfl,rfl⟩;exact ⟨rfl,.inr ⟨HN.o,rfl⟩,HB1.o⟩
 rw [decide_eq_true h0] at HW;have H0:Hid (0≤v.me∧v.me≤49):=h0;clear h0;go_wp2_with fail;refine HW.o.mono ?_;rintro e W ⟨rfl,hw⟩;subst hw;clear HW HX0 HB0;clear c0 c1 c2 c3 c4 c5 c6 c7 c8 c9 c10 c11 c12;generalize (W0.alloc (.cells #[zI v.me] 3))=W1 at *;obtain ⟨c0,c1,c2,c3,c4,c5,c6,c7,c8,c9,c10,c11,c12⟩:=scl13 HX1;go_wp2_with fail;refine (HKR.o _).mono ?_;rintro e W2 ⟨B,rfl,hB,hb⟩;have HB2:=shB HB1 hb;have HX2:=shN HX1 hb;clear hb HKR HB1 HX1;clear c0 c1 c2 c3 c4 c5 c6 c7 c8 c9 c10 c11 c12;obtain ⟨c0,c1,c2,c3,c4,c5,c6,c7,c8,c9,c10,c11,c12⟩:=scl13 HX2;cases B
 case false=>
  have HN:Hid (¬ EMay v):=fun q=>absurd (hB.2 (HMI.o.1 q).2.1) (by decide);clear hB;go_wp2_with fail;refine (HNO.o _).mono ?_;rintro e W9 ⟨rfl,rfl⟩;exact ⟨rfl,.inr ⟨HN.o,rfl⟩,HB2.o⟩
 have HK:Hid (KindR v):=hB.1 rfl;clear hB;go_wp2_with fail;refine (HLE.o _).mono ?_;rintro e W3 ⟨rfl,hb⟩;have HB3:=shB HB2 hb;clear hb HLE HB2 HX2;clear c0 c1 c2 c3 c4 c5 c6 c7 c8 c9 c10 c11 c12;obtain ⟨B,hB,hBi⟩:=eqEv_any (leftE v) ev0 W3;have HEQ:Hid ((Op.equalIn 10000 72 (.agg (leftE v).cs) (.agg ev0.cs)).run Tryz.prog W3 = .ok B W3):=hB;have HBI:Hid (B=true↔leftE v=ev0):=hBi;clear hB hBi;unfold Ev.v;cases B
 case false=>
  have HN:Hid (¬ EMay v):=fun q=>absurd (HBI.o.2 (HMI.o.1 q).2.2) (by decide);go_wp2_with (first | (refine wp_neE (by rfl) 72 _ _ _ rfl (leftE v).cs ev0.cs rfl rfl (by kernel_rfl) false HEQ.o _ rfl ?_) | fail)
  go_wp2_with fail;refine (HNO.o _).mono ?_;rintro e W9 ⟨rfl,rfl⟩;exact ⟨rfl,.inr ⟨HN.o,rfl⟩,HB3.o⟩
 case true=>
  have HY:Hid (EMay v):=HMI.o.2 ⟨H0.o,HK.o,HBI.o.1 rfl⟩;go_wp2_with (first | (refine wp_neE (by rfl) 72 _ _ _ rfl (leftE v).cs ev0.cs rfl rfl (by kernel_rfl) true HEQ.o _ rfl ?_) | fail)
  go_end0;exact ⟨.inl ⟨HY.o,rfl⟩,HB3.o⟩
end book
namespace vnd
open book (Ev Cm BookIs)
open acc (Tm)
theorem step_wf {t:Tm} {bk bk':List Cm} {v:Ev} (h:book.StepIs t bk v bk' 0) (hw:book.AWf bk):book.AWf bk':=by
 rcases h with ⟨_,e⟩ | ⟨_,_,_,e⟩ | ⟨m,_,_,_,rfl⟩ | ⟨_,_,_,e⟩ | ⟨m,_,k,c',_,hh,hs⟩
 ·cases e
 ·cases e
 ·exact hw.snoc ⟨(book.wf_may m).2.1,rfl,rfl,rfl,rfl,rfl⟩
 ·cases e
 ·rw [hs rfl];exact hw.set (book.hap_wf hh m).1
theorem book_wf {t:Tm} {l:List Ev} {bk:List Cm} {a:Int} (h:BookIs t l bk a 0):book.AWf bk:=by
 obtain ⟨_,_,_,st,s0,s1,rfl⟩:=book_ok h
 have:∀ i,i≤l.length→book.AWf (st i):=by
  intro i
  induction i with
  | zero=>intro _ c hc;rw [s0] at hc;cases hc
  | succ i ih=>intro hi;exact step_wf (s1 i (by omega)) (ih (by omega))
 exact this _ (Nat.le_refl _)
theorem load_wf {t:Tm} {c:List Int} {bk:List Cm} (h:LoadIs t c bk 0):book.AWf bk:=by
 obtain ⟨l,e,_,⟨p,_,q⟩ | ⟨_,a,q⟩⟩:=h
 ·exact absurd q.symm p
 ·exact book_wf q
theorem book_no {t:Tm} {l:List Ev} {bk:List Cm} {a f:Int} (h:BookIs t l bk a f) (hf:f≠0):bk=[]:=by
 rcases h with ⟨_,_,p,_⟩ | ⟨_,_,p,_⟩ | ⟨_,_,k,st,_,_,⟨_,_,_,p⟩ | ⟨_,_,_,p,_⟩⟩
 ·exact p
 ·exact p
 ·exact absurd p hf
 ·exact p
end vnd
namespace book
open Go.RowKit cell
theorem ws_upd {w W:World} {base g:Nat} {cs:Array Value} {t:TypeId} {v:Value} {l:List Int} (h:Ws w base v l) (hU:Upd w W g cs t) (hg:g<base):Ws W base v l:=by
 refine ⟨h.1,?_⟩;rcases h.2 with hn | ⟨g',cap,cur,hv,hb,hc,rest⟩
 ·exact .inl hn
 ·exact .inr ⟨g',cap,cur,hv,hb,by rw [hU.oth g' (by omega)];exact hc,rest⟩
theorem kenc:KEnc:=by
 intro w v hwf;clear hwf;unfold Ev.v;have hmf:∀ (fn:Fn) (first cap:Array Value) (w:World),(Instr.makeFunc fn first cap).run Tryz.prog w = .ok (.func fn first cap) w:=fun _ _ _ _=>rfl;have HMU:Hid (∀ W,Calls Tryz.prog 67 #[.agg #[zI v.kd,zI v.me,zI v.mo,zI v.id,zI v.te,zI v.de,zI v.fe,zI v.pr,zI v.ch,zI v.un,zI v.tg,zI v.ow,zI v.bp]] W fun e w'=>MustPost W v e w'):=fun W=>bmust v W;have HWO:Hid (EMay v→∀ W,Calls Tryz.prog 153 #[.agg #[zI v.kd,zI v.me,zI v.mo,zI v.id,zI v.te,zI v.de,zI v.fe,zI v.pr,zI v.ch,zI v.un,zI v.tg,zI v.ow,zI v.bp]] W fun e w'=>∃ V,e = .returned V∧Ws w' W.heap.size V (evL v)∧Below W.heap.size W w'):=fun hm W=>bwords v (may_word hm) W;obtain ⟨W1,HWW,HX1,HE1,HB1,-⟩:=sh2 w #[zI v.kd,zI v.me,zI v.mo,zI v.id,zI v.te,zI v.de,zI v.fe,zI v.pr,zI v.ch,zI v.un,zI v.tg,zI v.ow,zI v.bp] 72 #[zI 0] 27;go_enter_defers Tryz.func107,Tryz.ntmps107;go_upto_region 2 with fail
 rw [HWW.o];clear HWW;obtain ⟨c0,c1,c2,c3,c4,c5,c6,c7,c8,c9,c10,c11,c12⟩:=scl13 HX1;go_wp2_with fail;refine (HMU.o _).mono ?_;rintro e W2 ⟨hm,hb⟩;have HX2:=shN HX1 hb;have HE2:=shN HE1 hb;have HB2:=shB HB1 hb;clear hb HX1 HE1 HB1 HMU c0 c1 c2 c3 c4 c5 c6 c7 c8 c9 c10 c11 c12;rcases hm with ⟨hm,rfl⟩ | ⟨hm,rfl⟩
 ·have HY:Hid (EMay v):=hm;have HWV:=HWO.o hm;have HWV':Hid (∀ W,Calls Tryz.prog 153 #[.agg #[zI v.kd,zI v.me,zI v.mo,zI v.id,zI v.te,zI v.de,zI v.fe,zI v.pr,zI v.ch,zI v.un,zI v.tg,zI v.ow,zI v.bp]] W fun e w'=>∃ V,e = .returned V∧Ws w' W.heap.size V (evL v)∧Below W.heap.size W w'):=HWV;clear hm HWO HWV;obtain ⟨c0,c1,c2,c3,c4,c5,c6,c7,c8,c9,c10,c11,c12⟩:=scl13 HX2;go_wp2_with fail;refine (HWV'.o _).mono ?_;rintro e W3 ⟨V,rfl,hV,hb⟩;have HE3:=shN HE2 hb;have HB3:=shB HB2 hb;have HV3:Hid (Ws W3 W2.heap.size V (evL v)):=hV;have hgs:Hid (w.heap.size+1<W2.heap.size):=HE2.o.lt;clear hb hV HX2 HE2 HB2 HWV' c0 c1 c2 c3 c4 c5 c6 c7 c8 c9 c10 c11 c12;go_wp2_with (first | (refine wp_let1 rfl 27 _ _ rfl (w.heap.size+1) 0 rfl .i64 0 rfl (by kernel_rfl) #[zI 0] 27 HE3.o (by decide) ?_) | fail)
  intro W4 hU;have HE4:Hid (Blk W4 (w.heap.size+1) #[zI 0] 27):=hU.blk;have HB4:=shV hU HB3 (by omega);have HV4:Hid (Ws W4 W2.heap.size V (evL v)):=ws_upd HV3.o hU hgs.o;clear hU;go_wp2_with fail;refine leaves_cons (f:=152) (args:=#[.pointer (some ⟨w.heap.size+1,0,none⟩)]) (by simp) (by simp [go_sem]) ?_;refine (encode_idle (w.heap.size+1) 0 _ HE4.o).mono ?_;rintro e u' w5 ⟨rfl,hs,W,hb,hU⟩;have r0:w5.cell? ⟨w.heap.size+1,0,none⟩=some (zI 0):=hU.blk.cell 0;have HB5:Below w.heap.size w w5:=hU.bel _ _ (by omega) (bel_step HB4.o hb);have HV5:Ws w5 W2.heap.size V (evL v):=ws_upd (HV4.o.next hb) hU hgs.o;obtain ⟨a,cap,hva,hrow,h1,h2⟩:=HV5.row;show Leaves _ _ _ _ [] (settle u') w5;rw [hs];refine ⟨.tuple #[V,zI 0],by simp [results,Tryz.results107,r0,go_sem],?_⟩;subst hva;exact ⟨a,_,cap,evL v,0,rfl,.inl ⟨HY.o,rfl,rfl⟩,hrow,h1,h2,by rw [evL_len];exact Nat.le_refl _,HB5⟩
 ·have HN:Hid (¬ EMay v):=hm;clear hm HWO;refine leaves_cons (f:=152) (args:=#[.pointer (some ⟨w.heap.size+1,0,none⟩)]) (by simp) (by simp [go_sem]) ?_;refine (encode_caught (w.heap.size+1) 0 5 _ HE2.o).mono ?_;rintro e u' w5 ⟨rfl,hs,W,hb,hU⟩;have r0:w5.cell? ⟨w.heap.size+1,0,none⟩=some (zI 5):=hU.blk.cell 0;have HB5:Below w.heap.size w w5:=hU.bel _ _ (by omega) (bel_step HB2.o hb);show Leaves _ _ _ _ [] (settle u') w5;rw [hs];refine ⟨.tuple #[zS,zI 5],by simp [results,Tryz.results107,r0,go_sem],?_⟩;exact ⟨none,0,0,[],5,rfl,.inr ⟨HN.o,rfl,rfl⟩,RowU.nil _ _,fun _=>rfl,Nat.le_refl _,Nat.zero_le _,HB5⟩
end book
namespace token
open words
open Go.RowKit
theorem str_list (ns:List Int):(strOf ns).data.toList=ns.map byt:=by
 have h:∀ (ns:List Int) (r:ByteArray),(ns.foldl (fun r n=>r.push (UInt8.ofNat n.toNat)) r).data.toList=r.data.toList++ns.map byt:=by
  intro ns
  induction ns with
  | nil=>intro r;simp
  | cons x l ih=>intro r;rw [List.foldl_cons,ih];simp [ByteArray.push,byt]
 have:=h ns ByteArray.empty;simpa [strOf] using this
theorem str_size (ns:List Int):(strOf ns).size=ns.length:=by
 rw [← check.len_eq,str_list];simp
theorem rep_list (n:Nat):Lib.repeatL [48] n=List.replicate n 48:=by
 induction n with
 | zero=>rfl
 | succ n ih=>rw [Lib.repeatL,ih];rfl
theorem bytes_ext {a b:ByteArray} (h:a.data.toList=b.data.toList):a=b:=by
 cases a;cases b;congr 1;exact Array.toList_inj.1 h
theorem pad_fmt (V n:Nat) (h:n+(decL V).length=20):(⟨(Lib.repeatL [48] n).toArray⟩:ByteArray)++strOf (decL V)=fmtB V:=by
 apply bytes_ext;rw [fmtB_list,show ((⟨(Lib.repeatL [48] n).toArray⟩:ByteArray)++strOf (decL V)).data.toList=Lib.repeatL [48] n++(strOf (decL V)).data.toList by simp,str_list,rep_list];unfold fmtL;rw [show 20 - (decL V).length=n by omega]
theorem show_wn (a b c V:Nat) (w:World) (h:WN a b c V) :
  Calls Tryz.prog 53 #[.agg #[.int .u32 (a:Int),.int .u32 (b:Int),.int .u32 (c:Int)]] w fun e w'=>e = .returned (.string (strOf (decL V)))∧Below w.heap.size w w':=by
 have hk:=wn_ok h;have:=show_any ⟨a,b,c⟩ w hk.1
 rwa [hk.2,Int.toNat_natCast] at this
theorem format_ok (k:Tok) (w:World) (ht:TTab w) (hk:k.ok) :
  Calls Tryz.prog 27 #[k.v] w fun e w'=>e = .returned (.tuple #[.string (fmtB (97*k.num)),zI 0])∧Below w.heap.size w w':=by
 have HF:Hid (∀ W,TTab W→Calls Tryz.prog 52 #[.agg #[zI (k.c:Int),zI (k.i:Int),zI (k.a:Int),zI (k.t:Int)]] W fun e w'=>WordsPost W k e w'):=fun W hW=>words_ok k W hW hk;have hnb:=num_bd hk;have hln:=dec_len20 (V:=k.num*97) (by omega);have hsz:=str_size (decL (k.num*97));have HSh:Hid (∀ (a b c:Nat) W,WN a b c (k.num*97)→Calls Tryz.prog 53 #[.agg #[.int .u32 (a:Int),.int .u32 (b:Int),.int .u32 (c:Int)]] W fun e w'=>e = .returned (.string (strOf (decL (k.num*97))))∧Below W.heap.size W w'):=fun a b c W hW=>show_wn a b c _ W hW;obtain ⟨n,hn⟩:∃ n:Nat,n+(decL (k.num*97)).length=20:=⟨20 - (decL (k.num*97)).length,by omega⟩
 have HRp:Hid (∀ W,Calls Tryz.prog 54 #[.string ⟨#[48]⟩,zI (n:Int)] W fun e w'=>e = .returned (.string ⟨(Lib.repeatL [48] n).toArray⟩)∧Below W.heap.size W w'):=fun W=>Tryz.strings_Repeat ⟨#[48]⟩ n W (by omega) (by show 1*n≤_;omega)
 have HX:Hid ((⟨(Lib.repeatL [48] n).toArray⟩:ByteArray)++strOf (decL (k.num*97))=fmtB (97*k.num)):=by
  show _=_;rw [pad_fmt _ _ hn,Nat.mul_comm]
 have hzz:(⟨(Lib.repeatL [48] n).toArray⟩:ByteArray).size=n:=by
  show (Lib.repeatL [48] n).toArray.size=n;rw [rep_list];simp
 have HT:Hid (TTab (w.alloc (.cells #[zI (k.c:Int),zI (k.i:Int),zI (k.a:Int),zI (k.t:Int)] 96))):=ht.below (bel_box _ _);have HB:Hid (Below w.heap.size w (w.alloc (.cells #[zI (k.c:Int),zI (k.i:Int),zI (k.a:Int),zI (k.t:Int)] 96))):=bel_box _ _;rw [← hsz] at hn hln;clear ht hk hnb hsz;generalize strOf (decL (k.num*97))=D at *;generalize (⟨(Lib.repeatL [48] n).toArray⟩:ByteArray)=Z at *;have hds:(20:Int) - (D.size:Int)=(n:Int):=by omega
 unfold Tok.v;go_enter Tryz.func27,Tryz.ntmps27;go_wp2_with fail;refine (HF.o _ HT.o).mono ?_;rintro e w1 ⟨a,b,c,rfl,hwn,hb1⟩;have hN:=Blk.new w1 #[.int .u32 (a:Int),.int .u32 (b:Int),.int .u32 (c:Int)] 131;have HB1:Hid (Below w.heap.size w (w1.alloc (.cells #[.int .u32 (a:Int),.int .u32 (b:Int),.int .u32 (c:Int)] 131))):=(bel_step HB.o hb1).alloc (bel_step HB.o hb1).size _;have HW:Hid (WN a b c (k.num*97)):=hwn;have c0:=hN.cell 0;have c1:=hN.cell 1;have c2:=hN.cell 2;clear hb1 HF HB HT hwn hN;go_wp2_with fail;refine (HSh.o _ _ _ _ HW.o).mono ?_;rintro e w2 ⟨rfl,hb2⟩;have HB2:=shB HB1 hb2;clear hb2 HSh HB1 HW c0 c1 c2;go_wp2_with fail;refine (HRp.o _).mono ?_;rintro e w3 ⟨rfl,hb3⟩;have HB3:=shB HB2 hb3;clear hb3 HRp HB2;go_wp2_with fail;refine bodyPost_ret (v:= .tuple #[.string (Z++D),zI 0]) (by simp [results,Tryz.results27,go_sem]) rfl ⟨by rw [HX.o],HB3.o⟩
end token
end Go.Proofs.YtnpblpbohcegoaaGreatDoor
