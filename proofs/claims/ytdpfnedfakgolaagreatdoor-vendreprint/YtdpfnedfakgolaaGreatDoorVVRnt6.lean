import Derived.Test.YtdpfnedfakgolaaGreatDoorVVRnt4
set_option linter.unusedVariables false
set_option linter.unusedSimpArgs false
set_option maxHeartbeats 4000000
set_option maxRecDepth 100000
namespace Go.Proofs.YtdpfnedfakgolaaGreatDoor
namespace token
open words check
open Go.RowKit
structure Tok where
 c:Nat
 i:Nat
 a:Nat
 t:Nat
def okB (k:Tok):Bool:=decide (k.c≤3) && decide (1≤k.i) && decide (k.i≤1048575) && decide (k.t≤65535) &&
 (if k.c=0 then decide (1≤k.a) && decide (k.a≤2097151) else if k.c=2 then decide (1≤k.a) && decide (k.a≤15) else decide (k.a=0))
structure Tok.ok (k:Tok):Prop where
 c3:k.c≤3
 i1:1≤k.i
 i2:k.i≤1048575
 t2:k.t≤65535
 a2:k.a≤2097151
 a0:k.c=0→1≤k.a
 ac:k.c=2→1≤k.a∧k.a≤15
 az:k.c=1∨k.c=3→k.a=0
theorem okB_ok {k:Tok}:okB k=true↔k.ok:=by
 unfold okB;by_cases h0:k.c=0
 ·rw [if_pos h0];simp only [Bool.and_eq_true,decide_eq_true_eq];exact ⟨fun h=>⟨by omega,by omega,by omega,by omega,by omega,by omega,by omega,by omega⟩,fun h=>⟨⟨⟨⟨h.c3,h.i1⟩,h.i2⟩,h.t2⟩,h.a0 h0,h.a2⟩⟩
 ·rw [if_neg h0];by_cases h2:k.c=2
  ·rw [if_pos h2];simp only [Bool.and_eq_true,decide_eq_true_eq];exact ⟨fun h=>⟨by omega,by omega,by omega,by omega,by omega,by omega,by omega,by omega⟩,fun h=>⟨⟨⟨⟨h.c3,h.i1⟩,h.i2⟩,h.t2⟩,h.ac h2⟩⟩
  ·rw [if_neg h2];simp only [Bool.and_eq_true,decide_eq_true_eq];exact ⟨fun h=>⟨by omega,by omega,by omega,by omega,by omega,by omega,by omega,by omega⟩,fun h=>⟨⟨⟨⟨h.c3,h.i1⟩,h.i2⟩,h.t2⟩,h.az (by have:=h.c3;omega)⟩⟩
def Tok.num (k:Tok):Nat:=k.c*144115188075855872+k.i*137438953472+k.a*65536+k.t
def Tok.body (k:Tok):Nat:=k.c*2199023255552+k.i*2097152+k.a
def Tok.v (k:Tok):Value:= .agg #[zI (k.c:Int),zI (k.i:Int),zI (k.a:Int),zI (k.t:Int)]
theorem num_lt {k:Tok} (h:k.ok):k.num<576460752303423488:=by
 have:=h.c3;have:=h.i2;have:=h.t2;have:=h.a2;unfold Tok.num;omega
theorem num_bd {k:Tok} (h:k.ok):97*k.num<73786976294838206464:=by have:=num_lt h;omega
theorem body_num {k:Tok} (h:k.ok):k.num / 65536 % 8796093022208=k.body:=by
 have:=h.c3;have:=h.i2;have:=h.t2;have:=h.a2;unfold Tok.num Tok.body;omega
theorem body_bd {k:Tok} (h:k.ok):k.body≤8796093022207:=by
 have:=h.c3;have:=h.i2;have:=h.t2;have:=h.a2;unfold Tok.body;omega
def byt (z:Int):UInt8:=UInt8.ofNat z.toNat
def fmtL (V:Nat):List UInt8:=List.replicate (20 - (decL V).length) 48++(decL V).map byt
def fmtB (V:Nat):ByteArray:=⟨(fmtL V).toArray⟩
theorem fmtB_list (V:Nat):(fmtB V).data.toList=fmtL V:=by simp [fmtB]
theorem dec_len20 {V:Nat} (h:V<100000000000000000000):1≤(decL V).length∧(decL V).length≤20:=decL_len 19 V (by omega)
def bigV (a b c:Nat):Nat:=a+b*4294967296+c*18446744073709551616
theorem bigV_bit {a b c:Nat} (ha:a<2 ^ 32) (hb:b<2 ^ 32) (m:Nat):(bigV a b c).testBit m=bit3 a b c m:=by
 have e:bigV a b c=2 ^ 32*(2 ^ 32*c+b)+a:=by unfold bigV;omega
 rw [e,Nat.testBit_two_pow_mul_add _ ha,Nat.testBit_two_pow_mul_add _ hb];unfold bit3;by_cases h1:m<32
 ·rw [if_pos h1,if_pos h1]
 ·rw [if_neg h1,if_neg h1];by_cases h2:m<64
  ·rw [if_pos h2,if_pos (by omega)]
  ·rw [if_neg h2,if_neg (by omega)]
   congr 1
theorem bits_num {a b c lo n:Nat} (ha:a<2 ^ 32) (hb:b<2 ^ 32) (hc:c<2 ^ 32) (hn:n≤64):bitsN a b c lo n=bigV a b c / 2 ^ lo % 2 ^ n:=by
 apply Nat.eq_of_testBit_eq;intro j;rw [bits_bit ha hb hc hn,Nat.testBit_mod_two_pow,Nat.testBit_div_two_pow,bigV_bit ha hb,Nat.add_comm]
theorem bigV_top {a b c:Nat} (ha:a<2 ^ 32) (hb:b<2 ^ 32) (hc:c<2 ^ 32):bigV a b c<2 ^ 96:=by
 unfold bigV;omega
theorem put_num {a b c v lo n:Nat} (ha:a<2 ^ 32) (hb:b<2 ^ 32) (hc:c<2 ^ 32) (hv:v<2 ^ n) (hn:n≤64) (hl:lo+n≤96) (h0:bigV a b c / 2 ^ lo % 2 ^ n=0) :
  bigV (putN a v n lo) (putN b v n ((lo:Int) - 32)) (putN c v n ((lo:Int) - 64))=bigV a b c+v*2 ^ lo:=by
 have pa:=put_lt a v n lo ha;have pb:=put_lt b v n ((lo:Int) - 32) hb;have pc:=put_lt c v n ((lo:Int) - 64) hc
 have hbit:∀ m,m<96→(bigV (putN a v n lo) (putN b v n ((lo:Int) - 32)) (putN c v n ((lo:Int) - 64))).testBit m=if lo≤m∧m<lo+n then v.testBit (m - lo) else (bigV a b c).testBit m:=fun m hm=>by
  rw [bigV_bit pa pb,put_bits hv m hm,bigV_bit ha hb]
 have hfv:bigV (putN a v n lo) (putN b v n ((lo:Int) - 32)) (putN c v n ((lo:Int) - 64)) / 2 ^ lo % 2 ^ n=v:=by
  rw [← bits_num pa pb pc hn,bits_put ha hb hc hv hn hl]
 have hVt:=bigV_top ha hb hc;have hWt:=bigV_top pa pb pc;generalize bigV (putN a v n lo) (putN b v n ((lo:Int) - 32)) (putN c v n ((lo:Int) - 64))=W at *;generalize bigV a b c=V at *
 have hlow:W % 2 ^ lo=V % 2 ^ lo:=by
  apply Nat.eq_of_testBit_eq;intro j;rw [Nat.testBit_mod_two_pow,Nat.testBit_mod_two_pow];by_cases hj:j<lo
  ·rw [hbit j (by omega),if_neg (by omega)]
  ·rw [decide_eq_false hj,Bool.false_and,Bool.false_and]
 have hhigh:W / 2 ^ lo / 2 ^ n=V / 2 ^ lo / 2 ^ n:=by
  rw [Nat.div_div_eq_div_mul,Nat.div_div_eq_div_mul,← Nat.pow_add];apply Nat.eq_of_testBit_eq;intro j;rw [Nat.testBit_div_two_pow,Nat.testBit_div_two_pow];by_cases hj:lo+n+j<96
  ·rw [Nat.add_comm j,hbit _ hj,if_neg (by omega)]
  ·rw [bit_hi hVt (by omega),bit_hi hWt (by omega)]
 have eV:=Nat.div_add_mod V (2 ^ lo);have eW:=Nat.div_add_mod W (2 ^ lo);have eV2:=Nat.div_add_mod (V / 2 ^ lo) (2 ^ n);have eW2:=Nat.div_add_mod (W / 2 ^ lo) (2 ^ n);rw [hhigh,hfv] at eW2;rw [hlow] at eW;rw [h0] at eV2;generalize V / 2 ^ lo / 2 ^ n=H at *;generalize V % 2 ^ lo=L at *;rw [← eV2,Nat.mul_add] at eV;rw [← eW2,Nat.mul_add] at eW;rw [Nat.mul_comm v];generalize 2 ^ lo*(2 ^ n*H)=p at *;generalize 2 ^ lo*v=r at *;omega
end token
namespace cell
open Go.RowKit
def arr (zs:List Int):Array Value:=(zs.map (Value.int .u32)).toArray
theorem arr_set (zs:List Int) (i:Nat) (v:Int):(arr zs).setIfInBounds i (.int .u32 v)=arr (zs.set i v):=by
 unfold arr;apply Array.ext';simp [List.map_set]
theorem Blk.rowU {w:World} {G n:Nat} {zs:List Int} {t:TypeId} (h:Blk w G (arr zs) t) (hn:zs.length=n):RowU w (some ⟨G,0,none⟩) n zs:=by
 refine ⟨hn,.inr ⟨G,0,rfl,fun i hi=>?_⟩⟩;rw [Nat.zero_add,h.cell i];unfold arr;simp [List.getD,show i<zs.length by omega]
theorem Blk.word {w:World} {G:Nat} {zs:List Int} {t:TypeId} (h:Blk w G (arr zs) t) (i:Nat) (hi:i<zs.length):w.cell? ⟨G,i,none⟩=some (.int .u32 (zs.getD i 0)):=by
 rw [h.cell i];unfold arr;simp [List.getD,hi]
theorem made_zero (n:Nat):madeCells (Value.int .u32 0).cells (n*1)=arr (List.replicate n 0):=by
 unfold madeCells arr;apply Array.ext';simp [Value.cells];apply List.ext_getElem
 ·simp
 ·intro i h1 h2;simp [Nat.mod_one]
theorem make_u32 (n:Nat) (h:n≤100000) (w:World):(Instr.makeSlice 31 (zI (n:Int)) (zI (n:Int))).run Tryz.prog w = .ok (.slice (some ⟨w.heap.size,0,none⟩) n n) (w.alloc (.cells (arr (List.replicate n 0)) 87)):=by
 obtain ⟨i0,hi,hz0,hz1,hz2⟩:=info_parts info_u32;have:=run_make (P:=Tryz.prog) w 31 87 i0 (.int .u32 0) Tryz.underlying31 hi hz0 .i64 .i64 n n (by omega) (by omega) (by rw [hz2];omega) (by omega);rw [hz1] at this;simp only [Int.toNat_natCast] at this;rw [made_zero] at this;exact this
end cell
namespace book
open Go.RowKit
def Ev.v (x:Ev):Value:= .agg #[zI x.kd,zI x.me,zI x.mo,zI x.id,zI x.te,zI x.de,zI x.fe,zI x.pr,zI x.ch,zI x.un,zI x.tg,zI x.ow,zI x.bp]
def Ev.cs (x:Ev):Array Value:=#[zI x.kd,zI x.me,zI x.mo,zI x.id,zI x.te,zI x.de,zI x.fe,zI x.pr,zI x.ch,zI x.un,zI x.tg,zI x.ow,zI x.bp]
def wf13 (x:Ev):Prop:=(Lit.int .i64 x.kd).wf=true∧(Lit.int .i64 x.me).wf=true∧(Lit.int .i64 x.mo).wf=true∧(Lit.int .i64 x.id).wf=true∧(Lit.int .i64 x.te).wf=true∧(Lit.int .i64 x.de).wf=true∧(Lit.int .i64 x.fe).wf=true∧(Lit.int .i64 x.pr).wf=true∧(Lit.int .i64 x.ch).wf=true∧(Lit.int .i64 x.un).wf=true∧(Lit.int .i64 x.tg).wf=true∧(Lit.int .i64 x.ow).wf=true∧(Lit.int .i64 x.bp).wf=true
theorem wf_may {x:Ev} (h:EMay x):wf13 x:=by
 have hh:=may_word h
 have q:∀ z,0≤z∧z<4294967296→(Lit.int .i64 z).wf=true:=fun z hz=>by
  simp only [Lit.wf,Bool.and_eq_true,decide_eq_true_eq];rw [show IntKind.i64.min=-9223372036854775808 from by decide,show IntKind.i64.max=9223372036854775807 from by decide];omega
 exact ⟨q _ (hh _ (by simp [evL])),q _ (hh _ (by simp [evL])),q _ (hh _ (by simp [evL])),q _ (hh _ (by simp [evL])),q _ (hh _ (by simp [evL])),q _ (hh _ (by simp [evL])),q _ (hh _ (by simp [evL])),q _ (hh _ (by simp [evL])),q _ (hh _ (by simp [evL])),q _ (hh _ (by simp [evL])),q _ (hh _ (by simp [evL])),q _ (hh _ (by simp [evL])),q _ (hh _ (by simp [evL]))⟩
end book
namespace token
open Go.ChangeShapes Go.WideShapes Go.ChangeAt Go.RowKit Go.Deep
def Eight (w:World) (g:Nat) (a0 a1 a2 a3 a4 a5 a6 a7:Int):Prop:=
 ∃ t fr,w.heap[g]?=some (.cells #[zI a0,zI a1,zI a2,zI a3,zI a4,zI a5,zI a6,zI a7] t fr)
structure TTab (w:World):Prop where
 places:Eight w 0 57 3 37 20 16 21 0 16
 amounts:Eight w 1 1 2097151 0 0 1 15 0 0
theorem Eight.lt {w:World} {g:Nat} {a0 a1 a2 a3 a4 a5 a6 a7:Int} (h:Eight w g a0 a1 a2 a3 a4 a5 a6 a7):g<w.heap.size:=by
 obtain ⟨t,fr,h⟩:=h;by_cases hh:g<w.heap.size
 ·exact hh
 ·rw [Array.getElem?_eq_none (by omega)] at h;cases h
theorem Eight.below {w w':World} {g:Nat} {a0 a1 a2 a3 a4 a5 a6 a7:Int} (h:Eight w g a0 a1 a2 a3 a4 a5 a6 a7) (hb:Below w.heap.size w w'):Eight w' g a0 a1 a2 a3 a4 a5 a6 a7:=by
 have hl:=h.lt;obtain ⟨t,fr,h⟩:=h;exact ⟨t,fr,by rw [hb.block g hl];exact h⟩
theorem TTab.below {w w':World} (h:TTab w) (hb:Below w.heap.size w w'):TTab w':=⟨h.places.below hb,h.amounts.below hb⟩
theorem list8 {α:Type} (l:List α) (h:l.length=8):∃ a b c d e f g i,l=[a,b,c,d,e,f,g,i]:=by
 match l,h with
 | [a,b,c,d,e,f,g,i],_=>exact ⟨a,b,c,d,e,f,g,i,rfl⟩
theorem two_of {H:Type} {enc:TypeId × Value→H} {P:Program} {w:World} {base:Nat} {spare:Nat→Bool} {held:Bool} {fuel:Nat} {t e:TypeId} {f0 f1:Field} {c0 c1:Value} {a0 a1:Int} {p:List MemPlace}
  (ht:P.underlying t=some (.struct #[f0,f1])) (hone:oneCellFields P #[f0,f1]=true) (he:P.underlying e=some (.int .i64)) (e0:f0.type=e) (e1:f1.type=e)
  (h:DataW.trod enc P w base spare held fuel t [c0,c1]=some (.agg [.lit (.int .i64 a0),.lit (.int .i64 a1)],p)):c0=zI a0∧c1=zI a1:=by
 obtain ⟨y0,y1,n,hx,_,h0,h1⟩:=trod_struct2 ht h;obtain ⟨o0,k0⟩:=hone_of hone 0 f0 rfl;obtain ⟨o1,k1⟩:=hone_of hone 1 f1 rfl;rw [o0,k0,e0] at h0;rw [o1,k1,e1] at h1;obtain ⟨x0,u0,rfl,_⟩:=DataW.trod_int he h0;obtain ⟨x1,u1,rfl,_⟩:=DataW.trod_int he h1;simp at u0 u1 hx;obtain ⟨⟨rfl,rfl⟩,_⟩:=hx;exact ⟨u0,u1⟩
theorem trod_array4w {H:Type} {enc:TypeId × Value→H} {P:Program} {w:World} {base:Nat} {spare:Nat→Bool} {held:Bool} {t e:TypeId} {fuel:Nat} {cs:List Value} {x:DataW H × List MemPlace} (ht:P.underlying t=some (.array 4 e)) (hce:P.cellsOf e=2) (hct:P.cellsOf t=8)
  (h:DataW.trod enc P w base spare held fuel t cs=some x) :
  cs.length=8∧∃ y0 y1 y2 y3 n,x=(.agg [y0.1,y1.1,y2.1,y3.1],y0.2++(y1.2++(y2.2++y3.2)))∧DataW.trod enc P w base spare held n e (cs.take 2)=some y0∧DataW.trod enc P w base spare held n e ((cs.drop 2).take 2)=some y1∧DataW.trod enc P w base spare held n e ((cs.drop 4).take 2)=some y2∧DataW.trod enc P w base spare held n e ((cs.drop 6).take 2)=some y3:=by
 cases fuel with
 | zero=>simp [DataW.trod] at h
 | succ n=>
  unfold DataW.trod at h;rw [ht] at h;have r4:List.range 4=[0,1,2,3]:=rfl;simp [r4,hce,hct] at h;obtain ⟨hl,h⟩:=h;refine ⟨hl,?_⟩;cases h0:DataW.trod enc P w base spare held n e (cs.take 2) with
  | none=>simp [h0] at h
  | some y0=>
   cases h1:DataW.trod enc P w base spare held n e ((cs.drop 2).take 2) with
   | none=>simp [h0,h1] at h
   | some y1=>
    cases h2:DataW.trod enc P w base spare held n e ((cs.drop 4).take 2) with
    | none=>simp [h0,h1,h2] at h
    | some y2=>
     cases h3:DataW.trod enc P w base spare held n e ((cs.drop 6).take 2) with
     | none=>simp [h0,h1,h2,h3] at h
     | some y3=>
      simp [h0,h1,h2,h3] at h;exact ⟨y0,y1,y2,y3,n,by rw [← h],h0,h1,h2,h3⟩
theorem eight_of {W:World} {name:String} {rest:List (String × DataW Unit)} {g:Nat} {t e z:TypeId} {f0 f1:Field} {a0 a1 a2 a3 a4 a5 a6 a7:Int}
  (hg:Tryz.prog.globalNamed name=some g) (hty:(Tryz.prog.globals[g]?).map (·.type)=some t) (ht:Tryz.prog.underlying t=some (.array 4 e)) (hce:Tryz.prog.cellsOf e=2) (hct:Tryz.prog.cellsOf t=8)
  (hs:Tryz.prog.underlying e=some (.struct #[f0,f1])) (hone:oneCellFields Tryz.prog #[f0,f1]=true) (hz:Tryz.prog.underlying z=some (.int .i64)) (e0:f0.type=z) (e1:f1.type=z)
  (h:laidMet Tryz.prog ((name,.agg [.agg [.lit (.int .i64 a0),.lit (.int .i64 a1)],.agg [.lit (.int .i64 a2),.lit (.int .i64 a3)],.agg [.lit (.int .i64 a4),.lit (.int .i64 a5)],.agg [.lit (.int .i64 a6),.lit (.int .i64 a7)]]) :: rest) W):Eight W g a0 a1 a2 a3 a4 a5 a6 a7:=by
 obtain ⟨ps,⟨g',t',cs,fuel,p,q,hg',ht',hvar,hd,_,_⟩,_⟩:=h;obtain rfl:=Option.some.inj (hg.symm.trans hg');obtain rfl:=Option.some.inj (hty.symm.trans ht');obtain ⟨hl,y0,y1,y2,y3,n,hx,h0,h1,h2,h3⟩:=trod_array4w ht hce hct hd;simp only [Prod.mk.injEq,DataW.agg.injEq,List.cons.injEq,and_true] at hx;obtain ⟨⟨x0,x1,x2,x3⟩,_⟩:=hx;obtain ⟨y0,q0⟩:=y0;obtain ⟨y1,q1⟩:=y1;obtain ⟨y2,q2⟩:=y2;obtain ⟨y3,q3⟩:=y3;simp only at x0 x1 x2 x3;subst x0 x1 x2 x3;obtain ⟨c0,c1,c2,c3,c4,c5,c6,c7,hcs⟩:=list8 _ hl;rw [hcs] at h0 h1 h2 h3;obtain ⟨rfl,rfl⟩:=two_of hs hone hz e0 e1 h0;obtain ⟨rfl,rfl⟩:=two_of hs hone hz e0 e1 h1;obtain ⟨rfl,rfl⟩:=two_of hs hone hz e0 e1 h2;obtain ⟨rfl,rfl⟩:=two_of hs hone hz e0 e1 h3;unfold World.var? at hvar;rw [hg] at hvar;simp only [Option.bind_some] at hvar;split at hvar
 ·rename_i cs' t' fr hc
  have hcs':=Option.some.inj hvar;refine ⟨t',fr,?_⟩;rw [hc,hcs']
  congr 2
  first
  | (cases cs;simp_all)
  | simp_all
 ·cases hvar
end token
namespace cents
open Go.RowKit
theorem part_yes (a b:Int) (w:World) (h1:0≤a) (h2:a≤1000000000000) (h3:0≤b) (h4:b≤10000) :
  Calls Tryz.prog 124 #[zI a,zI b] w fun e w'=>e = .returned (.tuple #[zI (a*b / 10000),zI 0])∧Below w.heap.size w w':=by
 obtain ⟨hp1,hp2⟩:=prod_bd a b _ _ h1 h2 h3 h4;go_enter Tryz.func124,Tryz.ntmps124;go_wp2_with fail;refine (within_one_yes _ _ _ _ _ rfl h1 h2).mono ?_;rintro e w' ⟨rfl,rfl⟩;go_wp2_with fail;refine (within_one_yes _ _ _ _ _ (by simp) h3 h4).mono ?_;rintro e w' ⟨rfl,rfl⟩;go_wp2;go_ret2;exact ⟨rfl,bel2 _ _ _⟩
theorem part_no (a b:Int) (w:World) (h:(a<0∨1000000000000<a)∨(b<0∨10000<b)) :
  Calls Tryz.prog 124 #[zI a,zI b] w fun e w'=>e = .returned (.tuple #[zI 0,zI 2])∧Below w.heap.size w w':=by
 by_cases h0:a<0∨1000000000000<a
 ·clear h;go_enter Tryz.func124,Tryz.ntmps124;go_wp2_with fail;refine (within_one_no _ _ _ _ _ rfl h0).mono ?_;rintro e w' ⟨rfl,rfl⟩;go_wp2;go_ret2;exact ⟨rfl,bel1 _ _⟩
 ·have h5:b<0∨10000<b:=by omega
  have h1:0≤a:=by omega
  have h2:a≤1000000000000:=by omega
  clear h h0;go_enter Tryz.func124,Tryz.ntmps124;go_wp2_with fail;refine (within_one_yes _ _ _ _ _ rfl h1 h2).mono ?_;rintro e w' ⟨rfl,rfl⟩;go_wp2_with fail;refine (within_one_no _ _ _ _ _ (by simp) h5).mono ?_;rintro e w' ⟨rfl,rfl⟩;go_wp2;go_ret2;exact ⟨rfl,bel2 _ _ _⟩
end cents
namespace deb
open tar (Du du0 Came RowD Ld ErrPost TwoPost PairT)
open Go.RowKit
theorem grow_more {b x:Int} (hx:0≤x) (hx1:x≤1000000000) (hb:0≤b):grow b x=x+min (x*b / 10000) (1000000000 - x):=by
 unfold grow;have:=Int.mul_nonneg hx hb;generalize x*b=p at *;omega
theorem pgrowth (x b:Int) (w:World) (hx:0≤x∧x≤1000000000) (hb:0≤b∧b≤10000):Calls Tryz.prog 155 #[.agg #[zI x,zI b]] w fun e w'=>e = .returned (zI (min (x*b / 10000) (1000000000 - x)))∧Below w.heap.size w w':=by
 have HPA:Hid (∀ W,Calls Tryz.prog 124 #[zI x,zI b] W fun e w'=>e = .returned (.tuple #[zI (x*b / 10000),zI 0])∧Below W.heap.size W w'):=fun W=>cents.part_yes x b W hx.1 (by omega) hb.1 hb.2;have HBX:Hid (Blk (w.alloc (.cells #[zI x,zI b] 83)) w.heap.size #[zI x,zI b] 83):=Blk.new w _ _;have HBW:Hid (Below w.heap.size w (w.alloc (.cells #[zI x,zI b] 83))):=(Below.refl _ _).alloc (Nat.le_refl _) _;obtain ⟨hx0,hx1⟩:=hx;clear hb;have hmin:=tar.run_min (x*b / 10000) (1000000000 - x) _ rfl;generalize x*b / 10000=q at *;generalize min q (1000000000 - x)=m at *;go_enter Tryz.func155,Tryz.ntmps155;go_wp2_with fail;refine (HPA.o _).mono ?_;rintro e w1 ⟨rfl,hb1⟩;have HB1:=shB HBW hb1;have c0:w1.cell? ⟨w.heap.size,0,none⟩=some (zI x):=(HBX.o.next hb1).cell 0;have c1:w1.cell? ⟨w.heap.size,1,none⟩=some (zI b):=(HBX.o.next hb1).cell 1;clear hb1 HPA HBX HBW;go_wp2_with fail;go_ret;exact ⟨rfl,HB1.o⟩
def mixK (l:List Du) (m k:Nat):List Du:=ageAll (l.take k) m++l.drop k
theorem mix_all (l:List Du) (m k:Nat) (h:l.length=k):mixK l m k=ageAll l m:=by
 subst h;unfold mixK;rw [List.take_length,List.drop_length,List.append_nil]
theorem mix_len (l:List Du) (m k:Nat) (hk:k≤l.length):(mixK l m k).length=l.length:=by
 unfold mixK;rw [List.length_append,ageAll_len,List.length_take,List.length_drop];omega
theorem drop_one (l:List Du) (k:Nat) (hk:k<l.length):l.drop k=l.getD k du0 :: l.drop (k+1):=by
 rw [List.drop_eq_getElem_cons hk];simp [List.getD,List.getElem?_eq_getElem hk]
theorem mix_at (l:List Du) (m k:Nat) (hk:k<l.length):(mixK l m k).getD k du0=l.getD k du0:=by
 unfold mixK;have e:(ageAll (l.take k) m).length=k:=by rw [ageAll_len,List.length_take];omega
 rw [drop_one l k hk,List.getD,List.getElem?_append_right (by omega),e,Nat.sub_self];simp
theorem mix_set (l:List Du) (m k:Nat) (hk:k<l.length) (d:Du):(mixK l m k).set k d=ageAll (l.take k) m++d :: l.drop (k+1):=by
 unfold mixK;have e:(ageAll (l.take k) m).length=k:=by rw [ageAll_len,List.length_take];omega
 rw [drop_one l k hk,List.set_append_right _ _ (by omega),e,Nat.sub_self,List.set_cons_zero]
theorem mix_next (l:List Du) (m k:Nat) (hk:k<l.length):(mixK l m k).set k ⟨growN (l.getD k du0).b m (l.getD k du0).a,(l.getD k du0).b⟩=mixK l m (k+1):=by
 rw [mix_set l m k hk];unfold mixK;rw [ageAll_take l m k hk];simp
theorem mix_same (l:List Du) (m k:Nat) (hk:k<l.length):(mixK l m k).set k ⟨growN (l.getD k du0).b 0 (l.getD k du0).a,(l.getD k du0).b⟩=mixK l m k:=by
 rw [mix_set l m k hk];show ageAll (l.take k) m++l.getD k du0 :: l.drop (k+1)=mixK l m k;unfold mixK;rw [drop_one l k hk]
theorem cells_set (l:List Du) (k:Nat) (hk:k<l.length) (x b:Int) (hb:(l.getD k du0).b=b):tar.cellsD (l.set k ⟨x,b⟩)=(tar.cellsD l).set (k*2) (zI x):=by
 induction l generalizing k with
 | nil=>simp at hk
 | cons d l ih=>
  cases k with
  | zero=>
   have e:d.b=b:=by simpa using hb
   subst e;rfl
  | succ k=>
   rw [show (k+1)*2=k*2+1+1 by omega];have h1:k<l.length:=by simpa using hk
   have h2:=ih k h1 (by simpa using hb);show tar.cellsD (d :: l.set k ⟨x,b⟩)=_;simp only [tar.cellsD,List.set_cons_succ,h2]
theorem ld_put {T:TypeId} {w W:World} {base g n cap:Nat} {l:List Du} {cur:Array Value} (h:Ld T w base (.slice (some ⟨g,0,none⟩) n cap) l) (hB:Blk w g cur T) (k:Nat) (hk:k<l.length) (x b:Int) (hb:(l.getD k du0).b=b) (hU:Upd w W g (cur.setIfInBounds (k*2) (zI x)) T):Ld T W base (.slice (some ⟨g,0,none⟩) n cap) (l.set k ⟨x,b⟩):=by
 unfold Ld at *;rw [List.length_set,cells_set l k hk x b hb];refine ⟨by rw [List.length_set];exact h.1,?_⟩;rcases h.2 with ⟨h',_⟩ | ⟨g',cap',cur',hv,hg,hc,hn,hm,hz,ht⟩
 ·cases h'
 ·simp only [Value.slice.injEq,Option.some.injEq,Addr.mk.injEq,and_true] at hv;obtain ⟨rfl,rfl,rfl⟩:=hv
  have e:cur'=cur:=by
   have h1:w.heap[g]?=some (.cells cur T (0,0)):=hB;rw [h1] at hc;injection hc with hc
   injection hc with hc
   exact hc.symm
  subst e;exact .inr ⟨g,cap,_,rfl,hg,hU.blk,hn,hm,by simpa using hz,by rw [Array.toList_setIfInBounds,← ht,List.take_set]⟩
theorem ld_lies {T:TypeId} {w:World} {base n cap:Nat} {a:Option Addr} {l:List Du} (h:Ld T w base (.slice a n cap) l) (hn:0<n):∃ g cur,a=some ⟨g,0,none⟩∧base≤g∧Blk w g cur T∧n*2≤cur.size∧(∀ k,k<l.length→w.cell? ⟨g,k*2,none⟩=some (zI (l.getD k du0).a)∧w.cell? ⟨g,k*2+1,none⟩=some (zI (l.getD k du0).b)):=by
 rcases h.2 with ⟨h',h0⟩ | ⟨g,cap',cur,hv,hg,hc,hle,hm,hz,ht⟩
 ·simp only [Value.slice.injEq] at h';omega
 ·simp only [Value.slice.injEq] at hv;obtain ⟨rfl,rfl,rfl⟩:=hv;refine ⟨g,cur,rfl,hg,hc,by omega,fun k hk=>?_⟩;have e1:=World.ownsRow.cellAt h (k*2) (by omega);have e2:=World.ownsRow.cellAt h (k*2+1) (by omega);rw [e1,e2];exact tar.cellsD_at l k hk
end deb
namespace tar
open Go.RowKit
open Classical in
theorem prises (b off k cap:Nat) (ls:List Du) (w1:World) (hs1:1≤k) (hs2:k≤8) (hlen:ls.length=k) (hbl:b<w1.heap.size) (hc:∀ i,i<k→w1.cell? ⟨b,off+i*2,none⟩=some (zI (ls.getD i du0).a)∧w1.cell? ⟨b,off+i*2+1,none⟩=some (zI (ls.getD i du0).b)):Calls Tryz.prog 136 #[.slice (some ⟨b,off,none⟩) k cap] w1 fun e w'=>e = .returned (.bool (decide (Rises ls)))∧Below w1.heap.size w1 w':=by
 have HC:Hid (∀ i,i<k→w1.cell? ⟨b,off+i*2,none⟩=some (zI (ls.getD i du0).a)∧w1.cell? ⟨b,off+i*2+1,none⟩=some (zI (ls.getD i du0).b)):=hc;have HLEN:Hid (ls.length=k):=hlen;have hnm:k≤9223372036854775807:=by omega
 clear hc hlen;go_enter Tryz.func136,Tryz.ntmps136;go_wp2_with fail;go_loopw [3] (fun x wr2=>∃ j:Nat,1≤j∧j≤k∧x=zI (j:Int)∧(∀ i,1≤i→i<j→(ls.getD (i - 1) du0).a<(ls.getD i du0).a)∧Below w1.heap.size w1 wr2) (fun x _=>k - (intOf x).toNat)
 case atStart=>exact ⟨1,Nat.le_refl _,hs1,rfl,fun i h1 h2=>absurd h2 (by omega),Below.refl _ _⟩
 case round=>
  obtain ⟨j,hj1,hj,rfl,hf,hb⟩:=hrel;have HF:Hid (∀ i,1≤i→i<j→(ls.getD (i - 1) du0).a<(ls.getD i du0).a):=hf;have HB:Hid (Below w1.heap.size w1 wr):=hb;by_cases hlt2:j<k
  ·have hdl2:decide ((j:Int)<(k:Int))=true:=by simp;omega
   have c0:wr.cell? ⟨b,off+j*2,none⟩=some (zI (ls.getD j du0).a):=(hb.cell (p:=⟨b,off+j*2,none⟩) hbl).trans (HC.o j hlt2).1;have c1:wr.cell? ⟨b,off+(j - 1)*2,none⟩=some (zI (ls.getD (j - 1) du0).a):=(hb.cell (p:=⟨b,off+(j - 1)*2,none⟩) hbl).trans (HC.o (j - 1) (by omega)).1;have hs2':wr.drew.cell? ⟨b,off+j*2,none⟩=some (zI (ls.getD j du0).a):=c0;have HBD:Hid (Below w1.heap.size w1 wr.drew):=hb.drew;have hsub:((j:Int) - 1)=((j - 1:Nat):Int):=by omega
   have hjm:j - 1<k:=by omega
   clear hb hf;by_cases hle:(ls.getD j du0).a≤(ls.getD (j - 1) du0).a
   ·have hde:decide ((ls.getD j du0).a≤(ls.getD (j - 1) du0).a)=true:=decide_eq_true hle
    have HN:Hid (decide (Rises ls)=false):=decide_eq_false fun h=>by
     have:=h j hj1 (by rw [HLEN.o];exact hlt2);omega
    clear hle;generalize (ls.getD j du0).a=x at *;generalize (ls.getD (j - 1) du0).a=y at *;generalize j - 1=j1 at *;go_wp2_with fail;go_region
    all_goals go_wp2_with fail
    go_ret;exact ⟨by rw [HN.o];rfl,HBD.o⟩
   ·have hde:decide ((ls.getD j du0).a≤(ls.getD (j - 1) du0).a)=false:=decide_eq_false hle
    have HF2:Hid (∀ i,1≤i→i<j+1→(ls.getD (i - 1) du0).a<(ls.getD i du0).a):=fun i h1 h2=>by
     by_cases e:i=j
     ·subst e;omega
     ·exact HF.o i h1 (by omega)
    clear hle;generalize (ls.getD j du0).a=x at *;generalize (ls.getD (j - 1) du0).a=y at *;generalize j - 1=j1 at *;go_wp2_with fail;go_region
    all_goals go_wp2_with fail
    go_roundw
    case rel=>exact ⟨j+1,by omega,by omega,by go_num,HF2.o,HBD.o⟩
    case measure=>simp [intOf];omega
  ·obtain rfl:j=k:=by omega
   have hdl2:decide ((j:Int)<(j:Int))=false:=by simp
   have HR:Hid (decide (Rises ls)=true):=decide_eq_true fun i h1 h2=>HF.o i h1 (by rw [HLEN.o] at h2;exact h2);clear hb hf;go_wp2_with fail;go_ret;exact ⟨by rw [HR.o];rfl,HB.o⟩
end tar
end Go.Proofs.YtdpfnedfakgolaaGreatDoor
