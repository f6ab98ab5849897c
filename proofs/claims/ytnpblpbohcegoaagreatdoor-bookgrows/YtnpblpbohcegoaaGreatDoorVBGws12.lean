import Derived.Test.YtnpblpbohcegoaaGreatDoorVBGws8
import Derived.Test.YtnpblpbohcegoaaGreatDoorVBGws11
set_option linter.unusedVariables false
set_option linter.unusedSimpArgs false
set_option maxHeartbeats 4000000
set_option maxRecDepth 100000
namespace Go.Proofs.YtnpblpbohcegoaaGreatDoor
namespace book
open Go.RowKit
theorem rowD_grown {w w':World} {own:Option Nat} {a:Option Addr} {n:Nat} {zs:List tar.Du} (h:tar.RowD w a n zs) (hg:w.grownBy w' own) (hne:0<n→∀ x,a=some x→some x.block≠own):tar.RowD w' a n zs:=by
 refine ⟨h.1,?_⟩;rcases h.2 with h0 | ⟨b,off,rfl,hc⟩
 ·exact .inl h0
 ·refine .inr ⟨b,off,rfl,fun i hi=>?_⟩;have h1:=hc i hi;have hb:=hg.block b (World.block_lt_of_cell? w ⟨b,off+i*2,none⟩ h1.1) (hne (by omega) _ rfl);have e:∀ o,w'.cell? ⟨b,o,none⟩=w.cell? ⟨b,o,none⟩:=fun o=>by simp [World.cell?,hb]
  rw [e,e];exact h1
theorem came_grown {w w':World} {own:Option Nat} {a:Option Addr} {n cap:Nat} {zs:List tar.Du} (h:tar.Came w a n cap zs) (hg:w.grownBy w' own) (hne:0<n→∀ x,a=some x→some x.block≠own):tar.Came w' a n cap zs:=⟨rowD_grown h.row hg hne,h.nil,h.room,h.bytes,h.wf⟩
def Cu.sold (x:Cu):Value:= .slice x.sp x.sn x.sc
def Cu.v (x:Cu):Value:= .agg x.cs.toArray
def Nums (x:Cu) (a:acc.Ac):Prop:=x.me=a.me∧x.rv=a.rv∧x.nx=a.nx∧x.mo=a.mo∧x.bo=a.bo∧x.fr=a.fr
structure Has (w:World) (base:Nat) (x:Cu) (c:Cm):Prop where
 num:Nums x c.a
 ds:deb.Fresh w base x.dp x.dn x.dc c.a.ds
 so:Lo w base x.sold c.so
def Apart (x y:Cu):Prop:=(∀ g,x.sold.ownBlock=some g→y.sold.ownBlock≠some g)∧(∀ g,x.sold.ownBlock=some g→0<y.dn→∀ p,y.dp=some p→p.block≠g)∧(∀ g,y.sold.ownBlock=some g→0<x.dn→∀ p,x.dp=some p→p.block≠g)
theorem Apart.symm {x y:Cu} (h:Apart x y):Apart y x:=⟨fun g h1 h2=>h.1 g h2 h1,h.2.2,h.2.1⟩
def Off (x:Cu) (own:Option Nat):Prop:=(∀ g,x.sold.ownBlock=some g→own≠some g)∧(0<x.dn→∀ p,x.dp=some p→some p.block≠own)
theorem Has.next {w w':World} {base:Nat} {x:Cu} {c:Cm} (h:Has w base x c) (hb:Below w.heap.size w w'):Has w' base x c:=⟨h.num,h.ds.below hb,h.so.next hb⟩
theorem Has.kept {w w':World} {base:Nat} {own:Option Nat} {x:Cu} {c:Cm} (h:Has w base x c) (hg:w.grownBy w' own) (ho:Off x own):Has w' base x c:=⟨h.num,⟨came_grown h.ds.came hg ho.2,h.ds.new⟩,h.so.kept hg ho.1⟩
structure Holds (w:World) (base:Nat) (V:Value) (xs:List Cu) (bk:List Cm):Prop where
 row:Lc w base V xs
 len:xs.length=bk.length
 has:∀ i,i<xs.length→Has w base (xs.getD i cu0) (bk.getD i cm0)
 off:∀ i,i<xs.length→Off (xs.getD i cu0) V.ownBlock
 self:∀ i,i<xs.length→∀ g,(xs.getD i cu0).sold.ownBlock=some g→0<(xs.getD i cu0).dn→∀ p,(xs.getD i cu0).dp=some p→p.block≠g
 apart:∀ i j,i<xs.length→j<xs.length→i≠j→Apart (xs.getD i cu0) (xs.getD j cu0)
theorem Holds.zero (w:World) (base:Nat):Holds w base (zS) [] []:=⟨Lc.zero _ _,rfl,(fun i hi=>by cases hi),(fun i hi=>by cases hi),(fun i hi=>by cases hi),(fun i j hi=>by cases hi)⟩
theorem Holds.next {w w':World} {base:Nat} {V:Value} {xs:List Cu} {bk:List Cm} (h:Holds w base V xs bk) (hb:Below w.heap.size w w'):Holds w' base V xs bk:=⟨h.row.next hb,h.len,fun i hi=>(h.has i hi).next hb,h.off,h.self,h.apart⟩
theorem getD_snoc {α:Type} (l:List α) (x d:α) (i:Nat) (hi:i<l.length+1):(l++[x]).getD i d=if i<l.length then l.getD i d else x:=by
 by_cases h:i<l.length
 ·rw [if_pos h];simp [List.getD,List.getElem?_append_left h]
 ·have:i=l.length:=by omega
  subst this;rw [if_neg h];simp [List.getD]
theorem Holds.snoc {w w':World} {base:Nat} {V V':Value} {xs:List Cu} {bk:List Cm} {x:Cu} {c:Cm} (h:Holds w base V xs bk) (hx:Has w base x c) (hxs:x.sold.ownBlock=none) (hxd:x.dn=0)
  (hr:Lc w' base V' (xs++[x])) (hg:w.grownBy w' V.ownBlock) (ho:V'.ownBlock=V.ownBlock∨V'.ownBlock=some w.heap.size):Holds w' base V' (xs++[x]) (bk++[c]):=by
 have hnew:∀ y:Cu,Off y V.ownBlock→(∀ g,y.sold.ownBlock=some g→g<w.heap.size)→(0<y.dn→∀ p,y.dp=some p→p.block<w.heap.size)→Off y V'.ownBlock:=fun y h1 h2 h3=>by
  rcases ho with e | e
  ·rw [e];exact h1
  ·rw [e];exact ⟨fun g hg' q=>(by have:=h2 g hg';have:=Option.some.inj q;omega),fun hn p hp q=>(by have:=h3 hn p hp;have:=Option.some.inj q;omega)⟩
 have lt1:∀ i,i<xs.length→∀ g,(xs.getD i cu0).sold.ownBlock=some g→g<w.heap.size:=fun i hi g hgg=>(World.ownsRow.lt (h.has i hi).so g hgg).2
 have lt2:∀ i,i<xs.length→0<(xs.getD i cu0).dn→∀ p,(xs.getD i cu0).dp=some p→p.block<w.heap.size:=fun i hi hn p hp=>by
  obtain ⟨b,off,e,lb,_⟩:=(h.has i hi).ds.came.row.at hn;rw [hp] at e;rw [Option.some.inj e];exact lb
 have offx:Off x V.ownBlock:=⟨fun g hgg=>(by rw [hxs] at hgg;cases hgg),fun hn=>by omega⟩
 have apx:∀ y:Cu,Apart y x:=fun y=>⟨fun g h1 h2=>(by rw [hxs] at h2;cases h2),fun g h1 hn=>(by omega),fun g h1=>(by rw [hxs] at h1;cases h1)⟩;have offx':Off x V'.ownBlock:=⟨fun g hgg=>(by rw [hxs] at hgg;cases hgg),fun hn=>by omega⟩
 refine ⟨hr,by rw [List.length_append,List.length_append,h.len];rfl,fun i hi=>?_,fun i hi=>?_,fun i hi=>?_,fun i j hi hj hij=>?_⟩
 all_goals simp only [List.length_append,List.length_cons,List.length_nil] at hi
 ·rw [getD_snoc xs x cu0 i hi,getD_snoc bk c cm0 i (by rw [← h.len];exact hi)];by_cases q:i<xs.length
  ·rw [if_pos q,if_pos (by rw [← h.len];exact q)];exact (h.has i q).kept hg (h.off i q)
  ·rw [if_neg q,if_neg (by rw [← h.len];exact q)];exact hx.kept hg offx
 ·rw [getD_snoc xs x cu0 i hi];by_cases q:i<xs.length
  ·rw [if_pos q];exact hnew _ (h.off i q) (lt1 i q) (lt2 i q)
  ·rw [if_neg q];exact offx'
 ·rw [getD_snoc xs x cu0 i hi];by_cases q:i<xs.length
  ·rw [if_pos q];exact h.self i q
  ·rw [if_neg q];intro g hgg;rw [hxs] at hgg;cases hgg
 ·simp only [List.length_append,List.length_cons,List.length_nil] at hj;rw [getD_snoc xs x cu0 i hi,getD_snoc xs x cu0 j hj];by_cases q:i<xs.length <;> by_cases q':j<xs.length
  ·rw [if_pos q,if_pos q'];exact h.apart i j q q' hij
  ·rw [if_pos q,if_neg q'];exact apx _
  ·rw [if_neg q,if_pos q'];exact (apx _).symm
  ·omega
theorem getD_put {α:Type} (l:List α) (x d:α) (k i:Nat) (hk:k<l.length):(l.set k x).getD i d=if i=k then x else l.getD i d:=by
 by_cases h:i=k
 ·subst h;rw [if_pos rfl];simp [List.getD,hk]
 ·rw [if_neg h];simp [List.getD,List.getElem?_set_ne (Ne.symm h)]
structure Turned (w w':World) (base:Nat) (x x':Cu) (c':Cm):Prop where
 grown:w.grownBy w' x.sold.ownBlock
 has:Has w' base x' c'
 own:∀ g,x'.sold.ownBlock=some g→x.sold.ownBlock=some g∨w.heap.size≤g
 new:0<x'.dn→∀ p,x'.dp=some p→w.heap.size≤p.block
 self:∀ g,x'.sold.ownBlock=some g→0<x'.dn→∀ p,x'.dp=some p→p.block≠g
theorem Holds.put {w w' w4:World} {base:Nat} {V:Value} {xs:List Cu} {bk:List Cm} {k:Nat} {x':Cu} {c':Cm} (h:Holds w base V xs bk) (hk:k<xs.length) (ht:Turned w w' base (xs.getD k cu0) x' c')
  (hr:Lc w4 base V (xs.set k x')) (hg:w'.grownBy w4 V.ownBlock):Holds w4 base V (xs.set k x') (bk.set k c'):=by
 have hkb:k<bk.length:=by rw [← h.len];exact hk
 have lt1:∀ i,i<xs.length→∀ g,(xs.getD i cu0).sold.ownBlock=some g→g<w.heap.size:=fun i hi g hgg=>(World.ownsRow.lt (h.has i hi).so g hgg).2
 have lt2:∀ i,i<xs.length→0<(xs.getD i cu0).dn→∀ p,(xs.getD i cu0).dp=some p→p.block<w.heap.size:=fun i hi hn p hp=>by
  obtain ⟨b,off,e,lb,_⟩:=(h.has i hi).ds.came.row.at hn;rw [hp] at e;rw [Option.some.inj e];exact lb
 have ltV:∀ g,V.ownBlock=some g→g<w.heap.size:=fun g hgg=>(World.ownsRow.lt h.row g hgg).2
 have offx:Off x' V.ownBlock:=⟨fun g hgg q=>by
  rcases ht.own g hgg with e | e
  ·exact (h.off k hk).1 g e q
  ·have:=ltV g q;omega,fun hn p hp q=>by
  have h1:=ht.new hn p hp;have h2:=ltV p.block q.symm
  omega⟩
 have apx:∀ i,i<xs.length→i≠k→Apart (xs.getD i cu0) x':=fun i hi hik=>by
  refine ⟨fun g h1 h2=>?_,fun g h1 hn p hp q=>?_,fun g h1 hn p hp q=>?_⟩
  ·rcases ht.own g h2 with e | e
   ·exact (h.apart i k hi hk hik).1 g h1 e
   ·have:=lt1 i hi g h1;omega
  ·have h3:=ht.new hn p hp;have h4:=lt1 i hi g h1;omega
  ·rcases ht.own g h1 with e | e
   ·exact (h.apart i k hi hk hik).2.2 g e hn p hp q
   ·have:=lt2 i hi hn p hp;omega
 refine ⟨hr,by rw [List.length_set,List.length_set,h.len],fun i hi=>?_,fun i hi=>?_,fun i hi=>?_,fun i j hi hj hij=>?_⟩
 all_goals rw [List.length_set] at hi
 ·rw [getD_put xs x' cu0 k i hk,getD_put bk c' cm0 k i hkb];by_cases q:i=k
  ·rw [if_pos q,if_pos q];exact ht.has.kept hg offx
  ·rw [if_neg q,if_neg q];have ap:=h.apart i k hi hk q
   have off1:Off (xs.getD i cu0) (xs.getD k cu0).sold.ownBlock:=⟨fun g h1 h2=>ap.1 g h1 h2,fun hn p hp e=>by
    exact ap.2.2 p.block e.symm hn p hp rfl⟩
   exact ((h.has i hi).kept ht.grown off1).kept hg (h.off i hi)
 ·rw [getD_put xs x' cu0 k i hk];by_cases q:i=k
  ·rw [if_pos q];exact offx
  ·rw [if_neg q];exact h.off i hi
 ·rw [getD_put xs x' cu0 k i hk];by_cases q:i=k
  ·rw [if_pos q];exact ht.self
  ·rw [if_neg q];exact h.self i hi
 ·rw [List.length_set] at hj;rw [getD_put xs x' cu0 k i hk,getD_put xs x' cu0 k j hk];by_cases q:i=k <;> by_cases q':j=k
  ·omega
  ·rw [if_pos q,if_neg q'];exact (apx j hj q').symm
  ·rw [if_neg q,if_pos q'];exact apx i hi q
  ·rw [if_neg q,if_neg q'];exact h.apart i j hi hj hij
structure Sees (w:World) (p:Option Addr) (n:Nat) (xs:List Cu) (bk:List Cm):Prop where
 row:RowC w p n xs
 len:xs.length=bk.length
 num:∀ i,i<xs.length→Nums (xs.getD i cu0) (bk.getD i cm0).a
 ds:∀ i,i<xs.length→tar.Came w (xs.getD i cu0).dp (xs.getD i cu0).dn (xs.getD i cu0).dc (bk.getD i cm0).a.ds
 so:∀ i,i<xs.length→RowS w (xs.getD i cu0).sp (xs.getD i cu0).sn (bk.getD i cm0).so
theorem Sees.below {w w':World} {p:Option Addr} {n:Nat} {xs:List Cu} {bk:List Cm} (h:Sees w p n xs bk) (hb:Below w.heap.size w w'):Sees w' p n xs bk:=⟨h.row.below hb,h.len,h.num,fun i hi=>(h.ds i hi).below hb,fun i hi=>(h.so i hi).below hb⟩
theorem Holds.sees {w:World} {base:Nat} {V:Value} {xs:List Cu} {bk:List Cm} (h:Holds w base V xs bk):∃ p cap,V = .slice p xs.length cap∧Sees w p xs.length xs bk:=by
 obtain ⟨p,cap,hv,hr,_,_⟩:=h.row.row;refine ⟨p,cap,hv,hr,h.len,fun i hi=>(h.has i hi).num,fun i hi=>(h.has i hi).ds.came,fun i hi=>?_⟩;obtain ⟨a,c,e,r,_⟩:=(h.has i hi).so.row;unfold Cu.sold at e;injection e with e1 e2 _
 rw [e1,e2];exact r
end book
namespace deb
open tar (Du du0 Came RowD Ld ErrPost TwoPost PairT)
open Go.RowKit
theorem kage:KdAge:=by
 intro w a len cap ls mo hcame hmw;have hr:=hcame.row;have HBY:Hid (len*16≤140737488351232):=hcame.bytes;have HNIL:Hid (a=none→cap=0):=hcame.nil;have HFA:Hid (Calls Tryz.prog 199 #[.slice a len cap] w fun e w'=>∃ f,e = .returned (zI f)∧FaultIs ls f∧Below w.heap.size w w'):=pcheck a len cap ls w hr hcame.most;have HIM:Hid (∀ W,Calls Tryz.prog 202 #[zI 0,zI 2400,zI mo] W fun e w'=>e = .returned (.bool (decide (0≤mo∧mo≤2400)))∧w'=W):=fun W=>dwithin 0 2400 mo W;have HROW0:Hid (RowD w a len ls):=hr;clear hcame hr hmw;go_enter Tryz.func201,Tryz.ntmps201;go_wp2_with fail;go_step3;go_wp2_with fail;refine HFA.o.mono ?_;rintro e w1 ⟨f,rfl,hf,hb1⟩;have HB1:Hid (Below w.heap.size w w1):=hb1;have HF:Hid (FaultIs ls f):=hf;clear hb1 HFA;by_cases h0:f=0
 ·subst h0;have hm:=hf.ok.1 rfl;have HM:Hid (Mays ls):=hm;have HROW:Hid (RowD w1 a len ls):=HROW0.o.below HB1.o;have HLEN:Hid (ls.length=len):=HROW.o.1;have hl8:len≤8:=by have:=hm.1;have:=HLEN.o;omega
  clear hf hm HROW0 HF;by_cases hmm:0≤mo∧mo≤2400
  ·rw [decide_eq_true hmm] at HIM;have HMO:Hid (0≤mo∧mo≤2400):=hmm;obtain ⟨m,rfl⟩:=Int.eq_ofNat_of_zero_le hmm.1;have hm2:m≤2400:=by omega
   have HMT:Hid ((m:Int).toNat=m):=by show _=_;omega
   clear hmm;go_wp2_with fail;refine (HIM.o _).mono ?_;rintro e w2 ⟨rfl,hw2⟩;subst hw2;clear HIM;cases a with
   | none=>
    have hc0:=HNIL.o rfl;have hl0:len=0:=by rcases HROW.o.2 with h | ⟨b,off,h,_⟩;exact h;cases h
    subst hc0 hl0;have happ:∀ w:World,(Builtin.append_ #[49,49] 49 #[zS,zS]).run Tryz.prog w = .ok (zS) w:=fun w=>by kernel_rfl
    have HAI:Hid (AgeIs ls (m:Int) (ageAll ls m) 0):= .inr (.inr ⟨HM.o,HMO.o,rfl,by rw [HMT.o]⟩)
    have HZ:Hid (ageAll ls m=[]):=by
     obtain rfl:ls=[]:=List.eq_nil_of_length_eq_zero HLEN.o;rfl
    go_wp2_with fail;go_step3;go_wp2_with fail;go_loopg [22] 0 (fun g z wr=>z=zI 0∧wr=w2)
    case atStart=>exact ⟨rfl,rfl⟩
    case round=>
     obtain ⟨rfl,rfl⟩:=hrel;go_wp2_with fail
     try rw [Exit.noGoto_ret]
     go_ret2;exact ⟨none,0,0,_,0,rfl,HAI.o,by rw [HZ.o];exact fresh_nil _ _,HB1.o⟩
   | some A=>
    go_wp2_with (first
     | (at_builtin;refine tar.wp_pairs debtT rfl _ _ rfl w2.heap.size A len cap ls rfl rfl HROW.o HBY.o (Nat.le_refl _) ?_)
     | fail)
    intro v3 w3 hown hg;obtain ⟨a3,cap3,hv3,hcm⟩:=ld_mays hown HM.o;rw [HLEN.o] at hv3;subst hv3;have HL3:Hid (Ld 70 w3 w2.heap.size (.slice a3 len cap3) ls):=hown;have HB3:Hid (Below w2.heap.size w2 w3):=(Below.refl _ _).grown hg (Nat.le_refl _) (fun k hk=>by cases hk);clear hown hg hcm;go_wp2_with fail;go_step3;go_wp2_with fail;have HMIX:Hid (Ld 70 w3 w2.heap.size (.slice a3 len cap3) (mixK ls m 0)):=HL3.o;go_loopg [22] len (fun g z wr=>∃ k:Nat,k+g=len∧z=zI (k:Int)∧Ld 70 wr w2.heap.size (.slice a3 len cap3) (mixK ls m k)∧Below w2.heap.size w2 wr)
    case atStart=>exact ⟨0,by omega,rfl,HMIX.o,HB3.o⟩
    case round=>
     obtain ⟨k,hkg,rfl,hl,hb⟩:=hrel;have HLK:Hid (Ld 70 wr w2.heap.size (.slice a3 len cap3) (mixK ls m k)):=hl;have HBK:Hid (Below w2.heap.size w2 wr):=hb;clear hl hb HMIX HL3 HB3;cases gk with
     | zero=>
      obtain rfl:k=len:=by omega
      have hdl:decide ((k:Int)<(k:Int))=false:=by simp
      have HAI:Hid (AgeIs ls (m:Int) (ageAll ls m) 0):= .inr (.inr ⟨HM.o,HMO.o,rfl,by rw [HMT.o]⟩);have HLE:Hid (Ld 70 wr w2.heap.size (.slice a3 k cap3) (ageAll ls m)):=by have:=HLK.o;rw [mix_all ls m k HLEN.o] at this;exact this
      have HCM:Hid (Fresh wr w.heap.size a3 k cap3 (ageAll ls m)):=by
       obtain ⟨a4,cap4,hv4,hcm⟩:=ld_fresh HLE.o (ageAll_mays HM.o m);have e:(ageAll ls m).length=k:=by rw [ageAll_len];exact HLEN.o
       rw [e] at hv4 hcm;simp only [Value.slice.injEq,true_and] at hv4;obtain ⟨rfl,rfl⟩:=hv4;exact hcm.low HB1.o.size
      have HB9:Hid (Below w.heap.size w wr):=HB1.o.trans (HBK.o.mono HB1.o.size);clear HLK HLE;generalize ageAll ls m=Z at *;go_wp2_with fail
      try rw [Exit.noGoto_ret]
      go_ret2;exact ⟨a3,k,cap3,Z,0,rfl,HAI.o,HCM.o,HB9.o⟩
     | succ g=>
      have hlt:k<len:=by omega
      have hdl:decide ((k:Int)<(len:Int))=true:=by simp;omega
      have hkl:k<ls.length:=by rw [HLEN.o];exact hlt
      have ho:=HM.o.2 k hkl;have HML:Hid ((mixK ls m k).length=len):=by show _=_;rw [mix_len ls m k (by omega)];exact HLEN.o
      have HSM:Hid ((mixK ls m k).set k ⟨growN (ls.getD k du0).b 0 (ls.getD k du0).a,(ls.getD k du0).b⟩=mixK ls m k):=mix_same ls m k hkl;have HNX:Hid ((mixK ls m k).set k ⟨growN (ls.getD k du0).b m (ls.getD k du0).a,(ls.getD k du0).b⟩=mixK ls m (k+1)):=mix_next ls m k hkl;have hx0:=ho.1.1;have hx1:=ho.1.2;have hy0:=ho.2.1;have hy1:=ho.2.2;clear ho hkl;generalize (ls.getD k du0).a=x at *;generalize (ls.getD k du0).b=y at *;go_wp2_with fail;go_loopg [26] m (fun g2 z wy=>∃ j:Nat,j+g2=m∧z=zI (j:Int)∧Ld 70 wy w2.heap.size (.slice a3 len cap3) ((mixK ls m k).set k ⟨growN y j x,y⟩)∧Below w2.heap.size w2 wy)
      case atStart=>exact ⟨0,by omega,rfl,by rw [HSM.o];exact HLK.o,HBK.o⟩
      case round=>
       rename_i wo
       obtain ⟨j,hjg,rfl,hl,hb⟩:=hrel;have HLJ:Hid (Ld 70 wr w2.heap.size (.slice a3 len cap3) ((mixK ls m k).set k ⟨growN y j x,y⟩)):=hl;have HBJ:Hid (Below w2.heap.size w2 wr):=hb;clear hl hb HLK HBK HSM;cases gk with
       | zero=>
        obtain rfl:j=m:=by omega
        have hdj:decide ((j:Int)<(j:Int))=false:=by simp
        have HLN:Hid (Ld 70 wr w2.heap.size (.slice a3 len cap3) (mixK ls j (k+1))):=by have:=HLJ.o;rw [HNX.o] at this;exact this
        clear HLJ HNX;go_wp2_with fail;go_roundg g
        case measure=>omega
        case rel=>exact ⟨k+1,by omega,by first | rfl | go_num,HLN.o,HBJ.o⟩
       | succ g2=>
        have hdj:decide ((j:Int)<(m:Int))=true:=by simp;omega
        have hjm:j<m:=by omega
        obtain ⟨gg,cur,hga,hgb,hblk,hcs,hcc⟩:=ld_lies HLJ.o (by omega);have hcell:=hcc k (by rw [List.length_set,HML.o];exact hlt)
        have hat:((mixK ls m k).set k ⟨growN y j x,y⟩).getD k du0=⟨growN y j x,y⟩:=by
         have:k<(mixK ls m k).length:=by rw [HML.o];exact hlt
         simp [List.getD,this]
        rw [hat] at hcell;obtain ⟨off,hoff⟩:∃ off:Nat,off=0:=⟨0,rfl⟩
        have HOFF:Hid (off=0):=hoff;have hga2:a3=some ⟨gg,off,none⟩:=by rw [hga,hoff]
        have c0:wr.cell? ⟨gg,off+k*2,none⟩=some (zI (growN y j x)):=by rw [hoff,Nat.zero_add];exact hcell.1
        have c1:wr.cell? ⟨gg,off+k*2+1,none⟩=some (zI y):=by rw [hoff,Nat.zero_add];exact hcell.2
        have HBL:Hid (Blk wr gg cur 70):=hblk;have hin:off+k*2<cur.size:=by omega
        have HGB:Hid (w2.heap.size≤gg):=hgb;clear hcell hat hcc hblk hgb hga hcs hoff;subst hga2;have hgn:=growN_bd hy0 hy1 hx0 hx1 j;have hu0:0≤growN y j x:=by omega
        have hu1:=hgn.2;have HGS:Hid (growN y (j+1) x=grow y (growN y j x)):=rfl;have HGR:Hid (∀ W,Calls Tryz.prog 206 #[.agg #[zI (growN y j x),zI y]] W fun e w'=>e = .returned (zI (min (growN y j x*y / 10000) (1000000000 - growN y j x)))∧Below W.heap.size W w'):=fun W=>pgrowth _ _ W ⟨hu0,hu1⟩ ⟨hy0,hy1⟩;have HMO2:Hid (grow y (growN y j x)=growN y j x+min (growN y j x*y / 10000) (1000000000 - growN y j x)):=grow_more hu0 hu1 hy0
        have hv0:0≤min (growN y j x*y / 10000) (1000000000 - growN y j x):=by
         have:=Int.mul_nonneg hu0 hy0;generalize growN y j x*y=pp at *;omega
        have hv1:min (growN y j x*y / 10000) (1000000000 - growN y j x)≤1000000000 - growN y j x:=Int.min_le_right _ _;generalize min (growN y j x*y / 10000) (1000000000 - growN y j x)=v at *;clear hgn;by_cases hz:v=0
        ·have hvz:(v == 0)=true:=by simpa using hz
         have HST:Hid (growN y m x=growN y j x):=by
          have h1:grow y (growN y j x)=growN y j x:=by rw [HMO2.o,hz];omega
          have h2:=growN_still h1 (m - j);rw [growN_add,show j+(m - j)=m by omega] at h2;exact h2
         have HLN:Hid (Ld 70 wr w2.heap.size (.slice (some ⟨gg,off,none⟩) len cap3) (mixK ls m (k+1))):=by have:=HLJ.o;rw [← HST.o,HNX.o] at this;exact this
         clear hz HST HNX HLJ;generalize growN y j x=u at *;go_wp2_with fail;refine (HGR.o _).mono ?_;rintro e w5 ⟨rfl,hb5⟩;have HL5:Hid (Ld 70 w5 w2.heap.size (.slice (some ⟨gg,off,none⟩) len cap3) (mixK ls m (k+1))):=HLN.o.next hb5;have HB5:=shB HBJ hb5;clear hb5 HGR HLN c0 c1;go_wp2_with fail;go_roundg g
         case measure=>omega
         case rel=>exact ⟨k+1,by omega,by first | rfl | go_num,HL5.o,HB5.o⟩
        ·have hvz:(v == 0)=false:=by simpa using hz
         have HSS:Hid (((mixK ls m k).set k ⟨growN y j x,y⟩).set k ⟨growN y j x+v,y⟩=(mixK ls m k).set k ⟨growN y (j+1) x,y⟩):=by show _=_;rw [List.set_set,HGS.o,HMO2.o]
         have HAT:Hid ((((mixK ls m k).set k ⟨growN y j x,y⟩).getD k du0).b=y):=by
          have:k<(mixK ls m k).length:=by rw [HML.o];exact hlt
          show _=_;simp [List.getD,this]
         have HKL:Hid (k<((mixK ls m k).set k ⟨growN y j x,y⟩).length):=by show _<_;rw [List.length_set,HML.o];exact hlt
         clear hz HGS HMO2;generalize (mixK ls m k).set k ⟨growN y j x,y⟩=Z at *;generalize growN y j x=u at *;go_wp2_with fail;refine (HGR.o _).mono ?_;rintro e w5 ⟨rfl,hb5⟩;have HL5:Hid (Ld 70 w5 w2.heap.size (.slice (some ⟨gg,off,none⟩) len cap3) Z):=HLJ.o.next hb5;have HB5:=shB HBJ hb5;have HK5:=shN HBL hb5;have e0:w5.cell? ⟨gg,off+k*2,none⟩=some (zI u):=(hb5.cell (p:=⟨gg,off+k*2,none⟩) HBL.o.lt).trans c0;clear hb5 HGR HLJ c0 c1 HBL HBJ
         go_wp2_with (first
          | (refine wp_let1 rfl 3 _ _ rfl gg (off+k*2) rfl .i64 (u+v) rfl (by kernel_rfl) cur 70 HK5.o hin ?_)
          | fail)
         intro W6 hU
         have HL6:Hid (Ld 70 W6 w2.heap.size (.slice (some ⟨gg,off,none⟩) len cap3) ((mixK ls m k).set k ⟨growN y (j+1) x,y⟩)):=by
          obtain rfl:=HOFF.o;rw [Nat.zero_add] at hU;show Ld _ _ _ _ _;rw [← HSS.o];exact ld_put HL5.o HK5.o k HKL.o _ _ HAT.o hU
         have HB6:Hid (Below w2.heap.size w2 W6):=hU.bel _ _ HGB.o HB5.o;clear hU HL5 HK5 HB5 e0;go_wp2_with fail;go_roundg g2
         case measure=>omega
         case rel=>exact ⟨j+1,by omega,by first | rfl | go_num,HL6.o,HB6.o⟩
  ·rw [decide_eq_false hmm] at HIM;have HMO:Hid (¬ (0≤mo∧mo≤2400)):=hmm;clear hmm;go_wp2_with fail;refine (HIM.o _).mono ?_;rintro e w2 ⟨rfl,hw2⟩;subst hw2;go_wp2_with fail
   try rw [Exit.noGoto_ret]
   go_ret2;exact ⟨none,0,0,[],2,rfl,.inr (.inl ⟨HM.o,HMO.o,rfl,rfl⟩),fresh_nil _ _,HB1.o⟩
 ·have hne:(f != 0)=true:=by simpa using h0
  have HN:Hid (¬ Mays ls):=fun h=>h0 (hf.ok.2 h);clear hf h0 HIM;go_wp2_with fail
  try rw [Exit.noGoto_ret]
  go_ret2;exact ⟨none,0,0,[],f,rfl,.inl ⟨HN.o,HF.o,rfl⟩,fresh_nil _ _,HB1.o⟩
end deb
end Go.Proofs.YtnpblpbohcegoaaGreatDoor
