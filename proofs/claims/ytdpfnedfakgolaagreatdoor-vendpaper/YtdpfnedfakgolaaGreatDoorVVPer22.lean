import Derived.Test.YtdpfnedfakgolaaGreatDoorVVPer21
set_option linter.unusedVariables false
set_option linter.unusedSimpArgs false
set_option maxHeartbeats 4000000
set_option maxRecDepth 100000
namespace Go.Proofs.YtdpfnedfakgolaaGreatDoor
namespace vnd
open book (Ev ev0 Cm cm0 So so0 Sees)
open acc (Ac Tm Bi)
open ora (Pr)
open cell (Wr RowU RowW)
open rcp (Rc rc0)
open Go.RowKit
def KvGrant (w0:World):Prop:=∀ (W:World) (t:Tm) (pt:Option Addr) (lt ct:Nat) (a:Option Addr) (n cap:Nat) (c:List Int) (ao:Option Addr) (no ko:Nat) (o:List Pr) (me mo dr:Int),Below w0.heap.size w0 W→acc.TCame W t pt lt ct→Dk W a n cap c→ora.Came W ao no ko o→(Lit.int .i64 me).wf=true→(Lit.int .i64 mo).wf=true→(Lit.int .i64 dr).wf=true→Calls Tryz.prog 20 #[t.v pt lt ct,.slice a n cap,.agg #[.slice ao no ko],zI me,zI mo,zI dr] W fun e w'=>TokGot W (TokIs 3 t c o me 0 mo dr) e w'
theorem KvGrant.up {w0 w:World} (K:KvGrant w0) (hb:Below w0.heap.size w0 w):KvGrant w:=fun W t pt lt ct a n cap c ao no ko o me mo dr hW=>K W t pt lt ct a n cap c ao no ko o me mo dr (bel_step hb hW)
def KvReg:Prop:=∀ (W:World) (t:Tm) (pt:Option Addr) (lt ct:Nat) (a:Option Addr) (n cap:Nat) (c:List Int) (me:Int),acc.TCame W t pt lt ct→Dk W a n cap c→(Lit.int .i64 me).wf=true→Calls Tryz.prog 17 #[t.v pt lt ct,.slice a n cap,zI me] W fun e w'=>WrGot W (RegIs t c me) e w'
end vnd
namespace words
open Go.RowKit
theorem run_timesStep (args:Array Value) (w:World):(callFunc 90 args).run Tryz.prog w = .ok (.enter 90 args) w:=by kernel_rfl
theorem times_any (x:W3) (m:Int) (w:World) (hx:x.ok) (m0:0≤m) (m1:m<4294967296) :
  Calls Tryz.prog 53 #[wv x,.int .u32 m] w fun e w'=>e = .returned (.tuple #[wv (timesW x m),.int .u32 (timesO x m)])∧Below w.heap.size w w':=by
 obtain ⟨x0,x1,x2⟩:=x;obtain ⟨⟨h0,h0'⟩,⟨h1,h1'⟩,h2,h2'⟩:=hx;simp only at h0 h0' h1 h1' h2 h2';go_enter Tryz.func53,Tryz.ntmps53;go_wp2_with fail;obtain ⟨p0,p0'⟩:=prod_bd h0 h0' m0 m1;obtain ⟨p1,p1'⟩:=prod_bd h1 h1' m0 m1;obtain ⟨p2,p2'⟩:=prod_bd h2 h2' m0 m1;have hc:=trio_d w #[.int .u32 x0,.int .u32 x1,.int .u32 x2] (.int .u32 m) 87 (.int .u32 0) (.int .u32 0) (.int .u32 0) (.int .u64 0) 97;have hb3:=bel4 w (.cells #[.int .u32 x0,.int .u32 x1,.int .u32 x2] 89) (.cells #[.int .u32 m] 87) (.cells #[.int .u32 0,.int .u32 0,.int .u32 0] 89) (.cells #[.int .u64 0] 97);have e0:(0:Int)+x0*m=x0*m:=by omega
 refine (upward_any 90 #[.pointer (some ⟨w.heap.size+1+1+1,0,none⟩),.pointer (some ⟨w.heap.size+1,0,none⟩)] (w.heap.size+1+1+1) (.int .u64 0) (.int .u64 ((x0*m) / 4294967296)) (.int .u64 (((x0*m) / 4294967296+x1*m) / 4294967296)) (.int .u64 ((((x0*m) / 4294967296+x1*m) / 4294967296+x2*m) / 4294967296)) x0 x1 x2
  ((x0*m) % 4294967296) (((x0*m) / 4294967296+x1*m) % 4294967296) ((((x0*m) / 4294967296+x1*m) / 4294967296+x2*m) % 4294967296) _ (Acc.refl hc.1 hc.2.1) run_timesStep
  (fun w' h=>by have:=timesStep_any (w.heap.size+1+1+1) (w.heap.size+1) 0 x0 m w' h.cell h.free (h.keep hc.2.2.2 (by omega)) (by omega) (by omega) h0 h0' m0 m1;rw [e0] at this;exact this)
  (fun w' h=>timesStep_any _ _ _ _ _ w' h.cell h.free (h.keep hc.2.2.2 (by omega)) (by omega) (by omega) h1 h1' m0 m1)
  (fun w' h=>timesStep_any _ _ _ _ _ w' h.cell h.free (h.keep hc.2.2.2 (by omega)) (by omega) (by omega) h2 h2' m0 m1)).mono ?_
 rintro e w1 ⟨he,hA⟩;have hR:Trio w1 (w.heap.size+1+1) (.int .u32 0) (.int .u32 0) (.int .u32 0):=hc.2.2.1.acc hA (by omega);have HB:Hid (Below w.heap.size w w1):=hA.below hb3 (by omega);have hcell:=hA.cell;have hsz:w.heap.size+1+1+1<w1.heap.size:=Nat.lt_of_lt_of_le hA.old hA.size;have EW:wv (timesW ⟨x0,x1,x2⟩ m) = .agg #[.int .u32 ((x0*m) % 4294967296),.int .u32 (((x0*m) / 4294967296+x1*m) % 4294967296),.int .u32 ((((x0*m) / 4294967296+x1*m) / 4294967296+x2*m) % 4294967296)]:=rfl;have EO:timesO ⟨x0,x1,x2⟩ m=(((x0*m) / 4294967296+x1*m) / 4294967296+x2*m) / 4294967296:=rfl;have z0:0≤(((x0*m) / 4294967296+x1*m) / 4294967296+x2*m) / 4294967296:=by omega
 have z1:(((x0*m) / 4294967296+x1*m) / 4294967296+x2*m) / 4294967296<4294967296:=by omega
 have HE:Hid (.returned (.tuple #[wv (timesW ⟨x0,x1,x2⟩ m),.int .u32 (timesO ⟨x0,x1,x2⟩ m)])=Ending.returned (.tuple #[.agg #[.int .u32 ((x0*m) % 4294967296),.int .u32 (((x0*m) / 4294967296+x1*m) % 4294967296),.int .u32 ((((x0*m) / 4294967296+x1*m) / 4294967296+x2*m) % 4294967296)],.int .u32 ((((x0*m) / 4294967296+x1*m) / 4294967296+x2*m) / 4294967296)])):=by
  have:Ending.returned (.tuple #[wv (timesW ⟨x0,x1,x2⟩ m),.int .u32 (timesO ⟨x0,x1,x2⟩ m)])=Ending.returned (.tuple #[.agg #[.int .u32 ((x0*m) % 4294967296),.int .u32 (((x0*m) / 4294967296+x1*m) % 4294967296),.int .u32 ((((x0*m) / 4294967296+x1*m) / 4294967296+x2*m) % 4294967296)],.int .u32 ((((x0*m) / 4294967296+x1*m) / 4294967296+x2*m) / 4294967296)]):=by rw [EW,EO]
  exact this
 clear hA hc hb3 EW EO e0 p0 p0' p1 p1' p2 p2';have HE2:Hid (e = .returned (.agg #[.int .u32 ((x0*m) % 4294967296),.int .u32 (((x0*m) / 4294967296+x1*m) % 4294967296),.int .u32 ((((x0*m) / 4294967296+x1*m) / 4294967296+x2*m) % 4294967296)])):=he;clear he;generalize hz:(((x0*m) / 4294967296+x1*m) / 4294967296+x2*m) / 4294967296=z at hcell z0 z1 HE HE2;generalize hy0:(x0*m) % 4294967296=y0 at HE HE2;generalize hy1:((x0*m) / 4294967296+x1*m) % 4294967296=y1 at HE HE2;generalize hy2:(((x0*m) / 4294967296+x1*m) / 4294967296+x2*m) % 4294967296=y2 at HE HE2;clear hz hy0 hy1 hy2;obtain rfl:=HE2.o;clear HE2;have hR:=hR.alloc (.cells #[.int .u32 y0,.int .u32 y1,.int .u32 y2] 89);have r0:=hR.c0;have r1:=hR.c1;have r2:=hR.c2;have g0:=hR.free 0;have g1:=hR.free 1;have g2:=hR.free 2;have HR:Hid (Trio (w1.alloc (.cells #[.int .u32 y0,.int .u32 y1,.int .u32 y2] 89)) (w.heap.size+1+1) (.int .u32 0) (.int .u32 0) (.int .u32 0)):=hR;clear hR;go_wp2_with fail;go_region
 all_goals go_wp2_with fail
 have RR:=((HR.o.set0 (.int .u32 y0)).set1 (.int .u32 y1)).set2 (.int .u32 y2);refine bodyPost_ret (v:= .tuple #[.agg #[.int .u32 y0,.int .u32 y1,.int .u32 y2],.int .u32 z]) (by simp [results,Tryz.results53,RR.c0,RR.c1,RR.c2,go_sem]) rfl ⟨HE.o.symm,?_⟩;exact below_put (HB.o.alloc HB.o.size _) _ _ _ _ _ _ _ (by omega)
end words
namespace token
open words
open Go.RowKit
theorem wn_ok {a b c V:Nat} (h:WN a b c V):W3.ok ⟨a,b,c⟩∧W3.val ⟨a,b,c⟩=V:=by
 have h1:=h.a1;have h2:=h.b1;have h3:=h.c1;have h4:=h.val;refine ⟨⟨⟨by show (0:Int)≤a;omega,by show (a:Int)<_;omega⟩,⟨by show (0:Int)≤b;omega,by show (b:Int)<_;omega⟩,by show (0:Int)≤c;omega,by show (c:Int)<_;omega⟩,?_⟩;unfold bigV at h4;unfold W3.val;simp only;omega
theorem wn_of {X:W3} (h:X.ok) {V:Nat} (hV:X.val=V):∃ a b c:Nat,X=⟨a,b,c⟩∧WN a b c V:=by
 obtain ⟨x,y,z⟩:=X;obtain ⟨⟨h0,h0'⟩,⟨h1,h1'⟩,h2,h2'⟩:=h;simp only at *;obtain ⟨a,rfl⟩:=Int.eq_ofNat_of_zero_le h0;obtain ⟨b,rfl⟩:=Int.eq_ofNat_of_zero_le h1;obtain ⟨c,rfl⟩:=Int.eq_ofNat_of_zero_le h2;refine ⟨a,b,c,rfl,by omega,by omega,by omega,?_⟩;unfold W3.val at hV;unfold bigV;simp only at hV;omega
theorem times_wn (a b c V m:Nat) (w:World) (h:WN a b c V) (hm:m<4294967296) (hv:V*m<79228162514264337593543950336) :
  Calls Tryz.prog 53 #[.agg #[.int .u32 (a:Int),.int .u32 (b:Int),.int .u32 (c:Int)],.int .u32 (m:Int)] w fun e w'=>
   ∃ (a' b' c':Nat) (o:Int),e = .returned (.tuple #[.agg #[.int .u32 (a':Int),.int .u32 (b':Int),.int .u32 (c':Int)],.int .u32 o])∧WN a' b' c' (V*m)∧Below w.heap.size w w':=by
 have hk:=wn_ok h;have ht:=times_any ⟨a,b,c⟩ m w hk.1 (by omega) (by omega)
 obtain ⟨a',b',c',he,hn⟩:=wn_of (X:=timesW ⟨a,b,c⟩ m) (carry3_ok _ _ _) (V:=V*m) (by
  rw [times_mod,hk.2];unfold top
  rw [← Int.natCast_mul,Int.emod_eq_of_lt (by omega) (by omega)])
 refine ht.mono ?_;rintro e w' ⟨rfl,hb⟩;exact ⟨a',b',c',_,by rw [he],hn,hb⟩
end token
namespace words
open Go.RowKit
theorem eq1 (d:Nat) (a a':Int) (w:World):(Op.equalIn (d+1) 87 (.int .u32 a) (.int .u32 a')).run Tryz.prog w = .ok (a == a') w:=by
 simp [Op.equalIn,run_underlying Tryz.underlying87,go_sem]
theorem part0 (a b c:Int) (w:World):(part 87 #[.int .u32 a,.int .u32 b,.int .u32 c] 0).run Tryz.prog w = .ok (.int .u32 a) w:=by kernel_rfl
theorem part1 (a b c:Int) (w:World):(part 87 #[.int .u32 a,.int .u32 b,.int .u32 c] 1).run Tryz.prog w = .ok (.int .u32 b) w:=by kernel_rfl
theorem part2 (a b c:Int) (w:World):(part 87 #[.int .u32 a,.int .u32 b,.int .u32 c] 2).run Tryz.prog w = .ok (.int .u32 c) w:=by kernel_rfl
theorem eq3 (a b c a' b' c':Int) (w:World) :
  (Op.equalIn 10000 89 (.agg #[.int .u32 a,.int .u32 b,.int .u32 c]) (.agg #[.int .u32 a',.int .u32 b',.int .u32 c'])).run Tryz.prog w = .ok (a == a' && (b == b' && c == c')) w:=by
 obtain ⟨i0,hi⟩:∃ i,Tryz.prog.info? 87=some i:=⟨_,rfl⟩
 rw [show (10000:Nat)=9999+1 from rfl,run_equalIn_array (w:=w) 9999 _ _ Tryz.underlying89 hi,cells_word,show List.range 3=[0,1,2] from rfl];simp only [Op.eqItems,Sem.run_bind,Nat.mul_one,part0,Result.andThen_ok,show (9999:Nat)=9998+1 from rfl,eq1];by_cases ha:a=a'
 ·by_cases hb:b=b'
  ·by_cases hc:c=c'
   ·simp [part1,part2,Sem.run_bind,eq1,ha,hb,hc]
   ·simp [part1,part2,Sem.run_bind,eq1,ha,hb,hc]
  ·simp [part1,Sem.run_bind,eq1,ha,hb]
 ·simp [ha]
theorem eq3_same (x:W3) (w:World):(Op.equalIn 10000 89 (wv x) (wv x)).run Tryz.prog w = .ok true w:=by
 rw [eq3];simp
theorem eq3_other {x y:W3} (h:x≠y) (w:World):(Op.equalIn 10000 89 (wv x) (wv y)).run Tryz.prog w = .ok false w:=by
 rw [eq3];have:=agg_ne h
 congr 1
 simp;intro h1 h2 h3;exact this ⟨h1,h2,h3⟩
end words
namespace token
open words
open Go.RowKit
theorem words_no (c i a t:Int) (w:World) (ht:TTab w) (h:flawT c i a t≠0) :
  Calls Tryz.prog 66 #[.agg #[zI c,zI i,zI a,zI t]] w fun e w'=>e = .returned (.tuple #[.agg #[.int .u32 0,.int .u32 0,.int .u32 0],zI (flawT c i a t)])∧Below w.heap.size w w':=by
 have HF:Hid (∀ W,TTab W→Calls Tryz.prog 27 #[.agg #[zI c,zI i,zI a,zI t]] W fun e w'=>e = .returned (zI (flawT c i a t))∧Below W.heap.size W w'):=fun W hW=>flaw_any c i a t W hW;have hd:(flawT c i a t != 0)=true:=by simpa using h
 have hb0:Below w.heap.size w ((w.alloc (.cells #[zI c,zI i,zI a,zI t] 54)).alloc (.cells #[.int .u32 0,.int .u32 0,.int .u32 0] 89)):=(bel_box _ _).alloc (by simp) _;have HB:Hid (Below w.heap.size w ((w.alloc (.cells #[zI c,zI i,zI a,zI t] 54)).alloc (.cells #[.int .u32 0,.int .u32 0,.int .u32 0] 89))):=hb0;have HT:Hid (TTab ((w.alloc (.cells #[zI c,zI i,zI a,zI t] 54)).alloc (.cells #[.int .u32 0,.int .u32 0,.int .u32 0] 89))):=ht.below hb0;have HX:Hid (Blk ((w.alloc (.cells #[zI c,zI i,zI a,zI t] 54)).alloc (.cells #[.int .u32 0,.int .u32 0,.int .u32 0] 89)) (w.heap.size+1) #[.int .u32 0,.int .u32 0,.int .u32 0] 89):=Blk.new1 _ _ _ _;clear ht h hb0;generalize flawT c i a t=f at *;go_enter Tryz.func66,Tryz.ntmps66;go_wp2_with fail;refine (HF.o _ HT.o).mono ?_;rintro e w1 ⟨rfl,hb1⟩;have hX:=HX.o.next hb1;have hB1:=bel_step HB.o hb1;have HB1:Hid (Below w.heap.size w (((w1.setCell ⟨w.heap.size+1,0,none⟩ (.int .u32 0)).setCell ⟨w.heap.size+1,1,none⟩ (.int .u32 0)).setCell ⟨w.heap.size+1,2,none⟩ (.int .u32 0))):=bel_set (bel_set (bel_set hB1 _ _ _ (by omega)) _ _ _ (by omega)) _ _ _ (by omega);have RR:Blk (((w1.setCell ⟨w.heap.size+1,0,none⟩ (.int .u32 0)).setCell ⟨w.heap.size+1,1,none⟩ (.int .u32 0)).setCell ⟨w.heap.size+1,2,none⟩ (.int .u32 0)) (w.heap.size+1) #[.int .u32 0,.int .u32 0,.int .u32 0] 89:=((hX.set 0 _).set 1 _).set 2 _;have R0:Hid (_=_):=RR.cell 0;have R1:Hid (_=_):=RR.cell 1;have R2:Hid (_=_):=RR.cell 2;have x0:=hX.cell 0;have x1:=hX.cell 1;have x2:=hX.cell 2;have f0:=hX.free 0;have f1:=hX.free 1;have f2:=hX.free 2;clear hb1 HF HB HT HX hX RR hB1;go_wp2_with fail;refine bodyPost_ret (v:= .tuple #[.agg #[.int .u32 0,.int .u32 0,.int .u32 0],zI f]) (by simp [results,Tryz.results66,R0.o,R1.o,R2.o,go_sem]) rfl ⟨rfl,HB1.o⟩
def WordsPost (w:World) (k:Tok) (e:Ending) (w':World):Prop:=∃ a b c:Nat,e = .returned (.tuple #[.agg #[.int .u32 (a:Int),.int .u32 (b:Int),.int .u32 (c:Int)],zI 0])∧WN a b c (k.num*97)∧Below w.heap.size w w'
theorem words_ok (k:Tok) (w:World) (ht:TTab w) (hk:k.ok) :
  Calls Tryz.prog 66 #[k.v] w fun e w'=>WordsPost w k e w':=by
 have HF:Hid (∀ W,TTab W→Calls Tryz.prog 27 #[.agg #[zI (k.c:Int),zI (k.i:Int),zI (k.a:Int),zI (k.t:Int)]] W fun e w'=>e = .returned (zI 0)∧Below W.heap.size W w'):=fun W hW=>by
  have:=flaw_any k.c k.i k.a k.t W hW
  rwa [flaw_tok.2 hk] at this
 have HP:Hid (∀ W,TTab W→Calls Tryz.prog 29 #[.agg #[zI (k.c:Int),zI (k.i:Int),zI (k.a:Int),zI (k.t:Int)]] W fun e w'=>PackPost W k e w'):=fun W hW=>pack_any k W hk hW
 have HQ:Hid (∀ (x y z:Nat) W,WN x y z k.num→Calls Tryz.prog 53 #[.agg #[.int .u32 (x:Int),.int .u32 (y:Int),.int .u32 (z:Int)],.int .u32 97] W fun e w'=>∃ (a' b' c':Nat) (o:Int),e = .returned (.tuple #[.agg #[.int .u32 (a':Int),.int .u32 (b':Int),.int .u32 (c':Int)],.int .u32 o])∧WN a' b' c' (k.num*97)∧Below W.heap.size W w'):=fun x y z W hW=>
  times_wn x y z k.num 97 W hW (by omega) (by have:=num_bd hk;omega)
 have hb0:Below w.heap.size w ((w.alloc (.cells #[zI (k.c:Int),zI (k.i:Int),zI (k.a:Int),zI (k.t:Int)] 54)).alloc (.cells #[.int .u32 0,.int .u32 0,.int .u32 0] 89)):=(bel_box _ _).alloc (by simp) _;have HB:Hid (Below w.heap.size w ((w.alloc (.cells #[zI (k.c:Int),zI (k.i:Int),zI (k.a:Int),zI (k.t:Int)] 54)).alloc (.cells #[.int .u32 0,.int .u32 0,.int .u32 0] 89))):=hb0;have HT:Hid (TTab ((w.alloc (.cells #[zI (k.c:Int),zI (k.i:Int),zI (k.a:Int),zI (k.t:Int)] 54)).alloc (.cells #[.int .u32 0,.int .u32 0,.int .u32 0] 89))):=ht.below hb0;have HR:Hid (Blk ((w.alloc (.cells #[zI (k.c:Int),zI (k.i:Int),zI (k.a:Int),zI (k.t:Int)] 54)).alloc (.cells #[.int .u32 0,.int .u32 0,.int .u32 0] 89)) (w.heap.size+1) #[.int .u32 0,.int .u32 0,.int .u32 0] 89):=Blk.new1 _ _ _ _;have HX:Hid (Blk ((w.alloc (.cells #[zI (k.c:Int),zI (k.i:Int),zI (k.a:Int),zI (k.t:Int)] 54)).alloc (.cells #[.int .u32 0,.int .u32 0,.int .u32 0] 89)) w.heap.size #[zI (k.c:Int),zI (k.i:Int),zI (k.a:Int),zI (k.t:Int)] 54):=(Blk.new _ _ _).alloc _;clear ht hk hb0;unfold Tok.v;go_enter Tryz.func66,Tryz.ntmps66;go_wp2_with fail;refine (HF.o _ HT.o).mono ?_;rintro e w1 ⟨rfl,hb1⟩;have HB1:=shB HB hb1;have HT1:Hid (TTab w1):=HT.o.below hb1;have HR1:=shN HR hb1;have hX:=HX.o.next hb1;have x0:=hX.cell 0;have x1:=hX.cell 1;have x2:=hX.cell 2;have x3:=hX.cell 3;clear hb1 HF HB HT HX hX HR;go_wp2_with fail;refine (HP.o _ HT1.o).mono ?_;rintro e w2 ⟨x,y,z,rfl,hwn,hb2⟩;have HB2:=shB HB1 hb2;have HR2:=shN HR1 hb2;have HN:Hid (WN x y z k.num):=hwn;clear hb2 hwn HB1 HT1 HP x0 x1 x2 x3 HR1;go_wp2_with fail;refine (HQ.o _ _ _ _ HN.o).mono ?_;rintro e w3 ⟨a',b',c',o,rfl,hwn,hb3⟩;have hB3:=(bel_step HB2.o hb3).alloc (bel_step HB2.o hb3).size (.cells #[.int .u32 (a':Int),.int .u32 (b':Int),.int .u32 (c':Int)] 89);have hR3:=(HR2.o.next hb3).alloc (.cells #[.int .u32 (a':Int),.int .u32 (b':Int),.int .u32 (c':Int)] 89)
 have HN3:Hid (WN a' b' c' (k.num*97)):=hwn;clear hb3 HB2 HQ HR2 HN hwn;have HB4:Hid (Below w.heap.size w ((((w3.alloc (.cells #[.int .u32 (a':Int),.int .u32 (b':Int),.int .u32 (c':Int)] 89)).setCell ⟨w.heap.size+1,0,none⟩ (.int .u32 (a':Int))).setCell ⟨w.heap.size+1,1,none⟩ (.int .u32 (b':Int))).setCell ⟨w.heap.size+1,2,none⟩ (.int .u32 (c':Int)))):=bel_set (bel_set (bel_set hB3 _ _ _ (by omega)) _ _ _ (by omega)) _ _ _ (by omega);have RR:Blk ((((w3.alloc (.cells #[.int .u32 (a':Int),.int .u32 (b':Int),.int .u32 (c':Int)] 89)).setCell ⟨w.heap.size+1,0,none⟩ (.int .u32 (a':Int))).setCell ⟨w.heap.size+1,1,none⟩ (.int .u32 (b':Int))).setCell ⟨w.heap.size+1,2,none⟩ (.int .u32 (c':Int))) (w.heap.size+1) #[.int .u32 (a':Int),.int .u32 (b':Int),.int .u32 (c':Int)] 89:=((hR3.set 0 _).set 1 _).set 2 _;have R0:Hid (_=_):=RR.cell 0;have R1:Hid (_=_):=RR.cell 1;have R2:Hid (_=_):=RR.cell 2;have x0:=hR3.cell 0;have x1:=hR3.cell 1;have x2:=hR3.cell 2;have f0:=hR3.free 0;have f1:=hR3.free 1;have f2:=hR3.free 2;clear RR hR3 hB3;go_wp2_with fail;refine bodyPost_ret (v:= .tuple #[.agg #[.int .u32 (a':Int),.int .u32 (b':Int),.int .u32 (c':Int)],zI 0]) (by simp [results,Tryz.results66,R0.o,R1.o,R2.o,go_sem]) rfl ⟨a',b',c',rfl,HN3.o,HB4.o⟩
end token
namespace vnd
open disk (RepIs repD lenAt itD)
open book (Ev ev0 evOf ECame)
open Go.RowKit
theorem it_in (c:List Int) (k:Nat):∀ z∈(disk.itD c k).1,∀ x∈z,x∈c:=by
 induction k with
 | zero=>intro z hz;simp [disk.itD] at hz
 | succ k ih=>
  intro z hz x hx;by_cases h:0<disk.lenAt c (disk.itD c k).2
  ·rw [disk.it_live h] at hz;rcases List.mem_append.1 hz with hz | hz
   ·exact ih z hz x hx
   ·rw [List.mem_singleton.1 hz] at hx;exact List.mem_of_mem_drop (List.mem_of_mem_take hx)
  ·have e:=disk.it_dead h 1;rw [e] at hz;exact ih z hz x hx
theorem rep_in {c:List Int} {o:List (List Int)} {x f:Int} (h:RepIs c o x f):∀ z∈o,∀ y∈z,y∈c:=by
 rcases h with ⟨_,rfl,_⟩ | ⟨_,_,rfl,_⟩ | ⟨_,_,rfl,_⟩
 ·intro z hz;cases hz
 ·intro z hz;cases hz
 ·exact it_in c _
theorem rep_len {c:List Int} {o:List (List Int)} {x f:Int} (h:RepIs c o x f):o.length≤2048:=(disk.rep_few h).1
theorem getD_inR {o:List (List Int)} {j:Nat} (h:j<o.length):o.getD j []∈o:=by
 have e:o.getD j []=o[j]:=by simp [List.getD,List.getElem?_eq_getElem h]
 rw [e];exact List.getElem_mem _
theorem take_mapE (o:List (List Int)) (k:Nat) (h:k<o.length):(o.take k).map evOf++[evOf (o.getD k [])]=(o.take (k+1)).map evOf:=by
 have e:o.getD k []=o[k]:=by simp [List.getD,List.getElem?_eq_getElem h]
 rw [List.take_succ_eq_append_getElem h,List.map_append,e];rfl
def KeptPost (w:World) (c:List Int) (e:Ending) (w':World):Prop:=∃ p m cp l f,e = .returned (.tuple #[.slice p m cp,zI f])∧KeptIs c l f∧ECame w' p m cp l∧m≤2048∧Below w.heap.size w w'
theorem ecame_nil (w:World):ECame w none 0 0 []:=⟨⟨rfl,.inl rfl⟩,fun _=>rfl,Nat.le_refl _,by omega,fun v hv=>by cases hv⟩
end vnd
namespace book
open Go.RowKit
def MustPost (w:World) (v:Ev) (e:Ending) (w':World):Prop:=((EMay v∧e = .returned (.tuple #[]))∨(¬ EMay v∧e = .panicked (thrown 5)))∧Below w.heap.size w w'
theorem eqEv_any (a b:Ev) (w:World):∃ B,(Op.equalIn 10000 125 (.agg a.cs) (.agg b.cs)).run Tryz.prog w = .ok B w∧(B=true↔a=b):=by
 obtain ⟨a0,a1,a2,a3,a4,a5,a6,a7,a8,a9,a10,a11,a12⟩:=a;obtain ⟨b0,b1,b2,b3,b4,b5,b6,b7,b8,b9,b10,b11,b12⟩:=b;refine ⟨_,eqEv 9997 a0 a1 a2 a3 a4 a5 a6 a7 a8 a9 a10 a11 a12 b0 b1 b2 b3 b4 b5 b6 b7 b8 b9 b10 b11 b12 w,?_⟩;rw [decide_eq_true_iff];constructor
 ·rintro ⟨rfl,rfl,rfl,rfl,rfl,rfl,rfl,rfl,rfl,rfl,rfl,rfl,rfl⟩;rfl
 ·intro h;cases h;exact ⟨rfl,rfl,rfl,rfl,rfl,rfl,rfl,rfl,rfl,rfl,rfl,rfl,rfl⟩
theorem bmust (v:Ev) (w:World):Calls Tryz.prog 104 #[.agg #[zI v.kd,zI v.me,zI v.mo,zI v.id,zI v.te,zI v.de,zI v.fe,zI v.pr,zI v.ch,zI v.un,zI v.tg,zI v.ow,zI v.bp]] w fun e w'=>MustPost w v e w':=by
 have HMI:Hid (EMay v↔(0≤v.me∧v.me≤49)∧KindR v∧leftE v=ev0):=may_iff v;obtain ⟨W0,HWW,HX0,HB0,-⟩:=sh1 w #[zI v.kd,zI v.me,zI v.mo,zI v.id,zI v.te,zI v.de,zI v.fe,zI v.pr,zI v.ch,zI v.un,zI v.tg,zI v.ow,zI v.bp] 125;have HNO:Hid (∀ W,Calls Tryz.prog 134 #[zI 5] W fun e w'=>e = .panicked (thrown 5)∧w'=W):=fun W=>insist_no 5 (by decide) W;have HKR:Hid (∀ W,Calls Tryz.prog 132 #[.agg #[zI v.kd,zI v.me,zI v.mo,zI v.id,zI v.te,zI v.de,zI v.fe,zI v.pr,zI v.ch,zI v.un,zI v.tg,zI v.ow,zI v.bp]] W fun e w'=>YN W (KindR v) e w'):=fun W=>bkind v.kd v.me v.mo v.id v.te v.de v.fe v.pr v.ch v.un v.tg v.ow v.bp W;have HLE:Hid (∀ W,Calls Tryz.prog 133 #[.agg #[zI v.kd,zI v.me,zI v.mo,zI v.id,zI v.te,zI v.de,zI v.fe,zI v.pr,zI v.ch,zI v.un,zI v.tg,zI v.ow,zI v.bp]] W fun e w'=>e = .returned (leftE v).v∧Below W.heap.size W w'):=fun W=>bleft v W;go_enter Tryz.func104,Tryz.ntmps104;go_upto_region 1 with fail
 rw [HWW.o];clear HWW;obtain ⟨c0,c1,c2,c3,c4,c5,c6,c7,c8,c9,c10,c11,c12⟩:=scl13 HX0;have HW:Hid (Calls Tryz.prog 131 #[zI 0,zI 49,.slice (some ⟨W0.heap.size,0,none⟩) 1 1] (W0.alloc (.cells #[zI v.me] 3)) fun e w'=>e = .returned (.bool (decide (0≤v.me∧v.me≤49)))∧w'=(W0.alloc (.cells #[zI v.me] 3))):=bki.within_one 0 49 v.me W0 _ rfl;have HB1:Hid (Below w.heap.size w (W0.alloc (.cells #[zI v.me] 3))):=HB0.o.alloc HB0.o.size _;have HX1:Hid (Blk (W0.alloc (.cells #[zI v.me] 3)) w.heap.size #[zI v.kd,zI v.me,zI v.mo,zI v.id,zI v.te,zI v.de,zI v.fe,zI v.pr,zI v.ch,zI v.un,zI v.tg,zI v.ow,zI v.bp] 125):=HX0.o.alloc _;by_cases h0:0≤v.me∧v.me≤49
 case neg=>
  rw [decide_eq_false h0] at HW;have HN:Hid (¬ EMay v):=fun q=>h0 (HMI.o.1 q).1;clear h0;go_wp2_with fail;refine HW.o.mono ?_;rintro e W ⟨rfl,hw⟩;subst hw;clear HW;clear HX0 HB0 c0 c1 c2 c3 c4 c5 c6 c7 c8 c9 c10 c11 c12;generalize (W0.alloc (.cells #[zI v.me] 3))=W1 at *;obtain ⟨c0,c1,c2,c3,c4,c5,c6,c7,c8,c9,c10,c11,c12⟩:=scl13 HX1;go_wp2_with fail;refine (HNO.o _).mono ?_;rintro e W9 ⟨rfl,rfl⟩;exact ⟨rfl,.inr ⟨HN.o,rfl⟩,HB1.o⟩
 rw [decide_eq_true h0] at HW;have H0:Hid (0≤v.me∧v.me≤49):=h0;clear h0;go_wp2_with fail;refine HW.o.mono ?_;rintro e W ⟨rfl,hw⟩;subst hw;clear HW HX0 HB0;clear c0 c1 c2 c3 c4 c5 c6 c7 c8 c9 c10 c11 c12;generalize (W0.alloc (.cells #[zI v.me] 3))=W1 at *;obtain ⟨c0,c1,c2,c3,c4,c5,c6,c7,c8,c9,c10,c11,c12⟩:=scl13 HX1;go_wp2_with fail;refine (HKR.o _).mono ?_;rintro e W2 ⟨B,rfl,hB,hb⟩;have HB2:=shB HB1 hb;have HX2:=shN HX1 hb;clear hb HKR HB1 HX1;clear c0 c1 c2 c3 c4 c5 c6 c7 c8 c9 c10 c11 c12;obtain ⟨c0,c1,c2,c3,c4,c5,c6,c7,c8,c9,c10,c11,c12⟩:=scl13 HX2;cases B
 case false=>
  have HN:Hid (¬ EMay v):=fun q=>absurd (hB.2 (HMI.o.1 q).2.1) (by decide);clear hB;go_wp2_with fail;refine (HNO.o _).mono ?_;rintro e W9 ⟨rfl,rfl⟩;exact ⟨rfl,.inr ⟨HN.o,rfl⟩,HB2.o⟩
 have HK:Hid (KindR v):=hB.1 rfl;clear hB;go_wp2_with fail;refine (HLE.o _).mono ?_;rintro e W3 ⟨rfl,hb⟩;have HB3:=shB HB2 hb;clear hb HLE HB2 HX2;clear c0 c1 c2 c3 c4 c5 c6 c7 c8 c9 c10 c11 c12;obtain ⟨B,hB,hBi⟩:=eqEv_any (leftE v) ev0 W3;have HEQ:Hid ((Op.equalIn 10000 125 (.agg (leftE v).cs) (.agg ev0.cs)).run Tryz.prog W3 = .ok B W3):=hB;have HBI:Hid (B=true↔leftE v=ev0):=hBi;clear hB hBi;unfold Ev.v;cases B
 case false=>
  have HN:Hid (¬ EMay v):=fun q=>absurd (HBI.o.2 (HMI.o.1 q).2.2) (by decide);go_wp2_with (first | (refine wp_neE (by rfl) 125 _ _ _ rfl (leftE v).cs ev0.cs rfl rfl (by kernel_rfl) false HEQ.o _ rfl ?_) | fail)
  go_wp2_with fail;refine (HNO.o _).mono ?_;rintro e W9 ⟨rfl,rfl⟩;exact ⟨rfl,.inr ⟨HN.o,rfl⟩,HB3.o⟩
 case true=>
  have HY:Hid (EMay v):=HMI.o.2 ⟨H0.o,HK.o,HBI.o.1 rfl⟩;go_wp2_with (first | (refine wp_neE (by rfl) 125 _ _ _ rfl (leftE v).cs ev0.cs rfl rfl (by kernel_rfl) true HEQ.o _ rfl ?_) | fail)
  go_end0;exact ⟨.inl ⟨HY.o,rfl⟩,HB3.o⟩
end book
namespace disk
open Go.RowKit cell
def KAppend:Prop:=∀ (W:World) (a:Option Addr) (n cap:Nat) (c:List Int) (b:Option Addr) (m cap2:Nat) (r:List Int),RowU W a n c→(a=none→cap=0)→n≤cap→n*4≤140737488351232→(∀ x∈c,0≤x∧x<4294967296)→RowU W b m r→(b=none→cap2=0)→m≤cap2→m*4≤140737488351232→(∀ x∈r,0≤x∧x<4294967296)→Calls Tryz.prog 71 #[.slice a n cap,.slice b m cap2] W fun e w'=>AppGot W c r e w'
end disk
namespace book
open Go.RowKit
def findV (B:Nat):Value:= .func (.func 96) #[] #[.pointer (some ⟨B,0,none⟩)]
theorem asked_any (B:Nat) (me xm xr xn xo xb xf:Int) (dp:Option Addr) (dn dc:Nat) (sp:Option Addr) (sn sc:Nat) (W:World) (hc:W.cell? ⟨B,0,none⟩=some (zI me)) (hB:B<W.heap.size) :
  Calls Tryz.prog 96 #[.agg #[zI xm,zI xr,zI xn,zI xo,zI xb,zI xf,.slice dp dn dc,.slice sp sn sc],.pointer (some ⟨B,0,none⟩)] W fun e w'=>e = .returned (.bool (xm == me))∧Below W.heap.size W w':=by
 have hc2:(W.alloc (.cells #[zI xm,zI xr,zI xn,zI xo,zI xb,zI xf,.slice dp dn dc,.slice sp sn sc] 64)).cell? ⟨B,0,none⟩=some (zI me):=by rw [World.cell?_alloc_lt W _ _ hB];exact hc
 have HB:Hid (Below W.heap.size W (W.alloc (.cells #[zI xm,zI xr,zI xn,zI xo,zI xb,zI xf,.slice dp dn dc,.slice sp sn sc] 64))):=(Below.refl _ _).alloc (Nat.le_refl _) _;clear hc hB;go_enter Tryz.func96,Tryz.ntmps96;go_wp2_with fail;go_ret;exact ⟨rfl,HB.o⟩
theorem index_cust (B n cap:Nat) (me:Int) (a:Option Addr) (l:List Cu) (w:World) (hc:w.cell? ⟨B,0,none⟩=some (zI me)) (hr:RowC w a n l) (hn:n≤2000000) :
  Calls Tryz.prog 95 #[.slice a n cap,findV B] w fun e w'=>∃ x,e = .returned (zI x)∧FoundIs l me x∧Below w.heap.size w w':=by
 have hB:=World.block_lt_of_cell? w _ hc
 have HC:Hid (∀ wr,Below w.heap.size w wr→∀ (xm xr xn xo xb xf:Int) (dp:Option Addr) (dn dc:Nat) (sp:Option Addr) (sn sc:Nat),Calls Tryz.prog 96 #[.agg #[zI xm,zI xr,zI xn,zI xo,zI xb,zI xf,.slice dp dn dc,.slice sp sn sc],.pointer (some ⟨B,0,none⟩)] wr fun e w'=>e = .returned (.bool (xm == me))∧Below wr.heap.size wr w'):=fun wr hb xm xr xn xo xb xf dp dn dc sp sn sc=>
  asked_any B me xm xr xn xo xb xf dp dn dc sp sn sc wr ((hb.cell (p:=⟨B,0,none⟩) hB).trans hc) (Nat.lt_of_lt_of_le hB hb.size)
 have HR:Hid (RowC w a n l):=hr;have HL:Hid (l.length=n):=hr.1;clear hc hB hr;unfold findV;go_enter Tryz.func95,Tryz.ntmps95;go_wp2_with fail;go_loopw [8] (fun i wr=>∃ k:Nat,k≤n∧i=zI (k:Int)∧(∀ j,j<k→(l.getD j cu0).me≠me)∧Below w.heap.size w wr) (fun i _=>n - (intOf i).toNat)
 case atStart=>exact ⟨0,Nat.zero_le _,rfl,(fun j hj=>absurd hj (Nat.not_lt_zero _)),Below.refl _ _⟩
 case round=>
  obtain ⟨k,hk,rfl,hal,hb⟩:=hrel;have HA:Hid (∀ j,j<k→(l.getD j cu0).me≠me):=hal;have HB:Hid (Below w.heap.size w wr):=hb;clear hal hb;by_cases hlt:k<n
  ·obtain ⟨b2,o2,rfl,l2,hc2⟩:=HR.o.2.resolve_left (by omega);have hce:∀ j,j<8→wr.cell? ⟨b2,o2+k*8+j,none⟩=(l.getD k cu0).cs[j]?:=fun j hj=>(HB.o.cell (p:=⟨b2,o2+k*8+j,none⟩) l2).trans (hc2 k j hlt hj)
   have HME:Hid (∀ z,z=(l.getD k cu0).me→(z=me→FoundIs l me (k:Int))∧(z≠me→∀ j,j<k+1→(l.getD j cu0).me≠me)):=fun z hz=>⟨fun e=> .inl ⟨k,by rw [HL.o];exact hlt,by rw [← hz];exact e,HA.o,rfl⟩,fun e j hj=>by
    by_cases q:j=k
    ·subst q;rw [← hz];exact e
    ·exact HA.o j (by omega)⟩
   clear hc2 l2;obtain ⟨⟨xm,xr,xn,xo,xb,xf,dp,dn,dc,sp,sn,sc⟩,hx⟩:∃ x,x=l.getD k cu0:=⟨_,rfl⟩
   have HMX:=HME.o xm (by rw [← hx]);have HY:Hid (xm=me→FoundIs l me (k:Int)):=HMX.1;have HNO:Hid (xm≠me→∀ j,j<k+1→(l.getD j cu0).me≠me):=HMX.2;rw [← hx] at hce;clear hx HME HMX;have c0:wr.cell? ⟨b2,o2+k*8,none⟩=some (zI xm):=hce 0 (by decide);have c1:wr.cell? ⟨b2,o2+k*8+1,none⟩=some (zI xr):=hce 1 (by decide);have c2:wr.cell? ⟨b2,o2+k*8+2,none⟩=some (zI xn):=hce 2 (by decide);have c3:wr.cell? ⟨b2,o2+k*8+3,none⟩=some (zI xo):=hce 3 (by decide);have c4:wr.cell? ⟨b2,o2+k*8+4,none⟩=some (zI xb):=hce 4 (by decide);have c5:wr.cell? ⟨b2,o2+k*8+5,none⟩=some (zI xf):=hce 5 (by decide);have c6:wr.cell? ⟨b2,o2+k*8+6,none⟩=some (.slice dp dn dc):=hce 6 (by decide);have c7:wr.cell? ⟨b2,o2+k*8+7,none⟩=some (.slice sp sn sc):=hce 7 (by decide);clear hce;have hcall:=HC.o wr HB.o xm xr xn xo xb xf dp dn dc sp sn sc;clear HC;by_cases he:xm=me
   ·have HF:Hid (FoundIs l me (k:Int)):=HY.o he;rw [show (xm == me)=true by simpa using he] at hcall;have HCL:Hid (Calls Tryz.prog 96 #[.agg #[zI xm,zI xr,zI xn,zI xo,zI xb,zI xf,.slice dp dn dc,.slice sp sn sc],.pointer (some ⟨B,0,none⟩)] wr fun e w'=>e = .returned (.bool true)∧Below wr.heap.size wr w'):=hcall;clear hcall he;go_wp2_with fail;refine HCL.o.mono ?_;rintro e w' ⟨rfl,hb'⟩;have HB':Hid (Below w.heap.size w w'):=bel_step HB.o hb';clear hb' c0 c1 c2 c3 c4 c5 c6 c7;go_wp2_with fail;go_ret;exact ⟨(k:Int),rfl,HF.o,HB'.o⟩
   ·have HF:Hid (∀ j,j<k+1→(l.getD j cu0).me≠me):=HNO.o he;rw [show (xm == me)=false by simpa using he] at hcall;have HCL:Hid (Calls Tryz.prog 96 #[.agg #[zI xm,zI xr,zI xn,zI xo,zI xb,zI xf,.slice dp dn dc,.slice sp sn sc],.pointer (some ⟨B,0,none⟩)] wr fun e w'=>e = .returned (.bool false)∧Below wr.heap.size wr w'):=hcall;clear hcall he;go_wp2_with fail;refine HCL.o.mono ?_;rintro e w' ⟨rfl,hb'⟩;have HB':Hid (Below w.heap.size w w'):=bel_step HB.o hb';clear hb' c0 c1 c2 c3 c4 c5 c6 c7;go_wp2_with fail;go_roundw
    case rel=>exact ⟨k+1,by omega,by go_num,HF.o,HB'.o⟩
    case measure=>simp [intOf];omega
  ·obtain rfl:k=n:=by omega
   have HFA:Hid (FoundIs l me (-1)):= .inr ⟨fun j hj=>HA.o j (by rw [← HL.o];exact hj),rfl⟩;go_wp2_with fail;go_ret;exact ⟨-1,rfl,HFA.o,HB.o⟩
theorem pfind (w:World) (p:Option Addr) (n cap:Nat) (l:List Cu) (me:Int) (hr:RowC w p n l) (hn:n≤2000000):Calls Tryz.prog 65 #[.agg #[.slice p n cap],zI me] w fun e w'=>FindPost w l me e w':=by
 have hmf:∀ (fn:Fn) (first cap:Array Value) (w:World),(Instr.makeFunc fn first cap).run Tryz.prog w = .ok (.func fn first cap) w:=fun _ _ _ _=>rfl;obtain ⟨W1,HWW,HK1,HM1,HB1,-⟩:=sh2 w #[.slice p n cap] 41 #[zI me] 3;have HR:Hid (RowC w p n l):=hr;have HN:Hid (n≤2000000):=hn;clear hr hn;go_enter Tryz.func65,Tryz.ntmps65;go_upto_region 1 with fail
 rw [HWW.o];clear HWW;have c0:W1.cell? ⟨w.heap.size,0,none⟩=some (.slice p n cap):=HK1.o.cell 0;have hI:=index_cust (w.heap.size+1) n cap me p l W1 (HM1.o.cell 0) (HR.o.below HB1.o) HN.o;unfold findV at hI;have HI:Hid (Calls Tryz.prog 95 #[.slice p n cap,.func (.func 96) #[] #[.pointer (some ⟨w.heap.size+1,0,none⟩)]] W1 fun e w'=>∃ x,e = .returned (zI x)∧FoundIs l me x∧Below W1.heap.size W1 w'):=hI;clear hI HK1 HM1 HR HN;go_wp2_with fail;refine HI.o.mono ?_;rintro e w' ⟨x,rfl,hx,hb⟩;have HB':Hid (Below w.heap.size w w'):=bel_step HB1.o hb;clear hb HI HB1 c0;by_cases hneg:x<0
 ·have HF:Hid (FindIs l me 0 18):=by
   rcases hx with ⟨k,_,_,_,e⟩ | ⟨h,_⟩
   ·omega
   ·exact .inr ⟨h,rfl,rfl⟩
  clear hx;go_wp2_with fail;go_ret2;exact ⟨0,18,rfl,HF.o,HB'.o⟩
 ·have HF:Hid (FindIs l me x 0):=by
   rcases hx with ⟨k,h1,h2,h3,e⟩ | ⟨h,e⟩
   ·exact .inl ⟨k,h1,h2,h3,e,rfl⟩
   ·omega
  clear hx;go_wp2_with fail;go_ret2;exact ⟨x,0,rfl,HF.o,HB'.o⟩
end book
end Go.Proofs.YtdpfnedfakgolaaGreatDoor
