import Derived.Test.YtnpblpbohcegoaaGreatDoorVBNrs9
set_option linter.unusedVariables false
set_option linter.unusedSimpArgs false
set_option maxHeartbeats 4000000
set_option maxRecDepth 100000
namespace Go.Proofs.YtnpblpbohcegoaaGreatDoor
namespace book
open Go.RowKit
theorem rowD_grown {w w':World} {own:Option Nat} {a:Option Addr} {n:Nat} {zs:List tar.Du} (h:tar.RowD w a n zs) (hg:w.grownBy w' own) (hne:0<n→∀ x,a=some x→some x.block≠own):tar.RowD w' a n zs:=by
 refine ⟨h.1,?_⟩;rcases h.2 with h0 | ⟨b,off,rfl,hc⟩
 ·exact .inl h0
 ·refine .inr ⟨b,off,rfl,fun i hi=>?_⟩;have h1:=hc i hi;have hb:=hg.block b (World.block_lt_of_cell? w ⟨b,off+i*2,none⟩ h1.1) (hne (by omega) _ rfl);have e:∀ o,w'.cell? ⟨b,o,none⟩=w.cell? ⟨b,o,none⟩:=fun o=>by simp [World.cell?,hb]
  rw [e,e];exact h1
theorem came_grown {w w':World} {own:Option Nat} {a:Option Addr} {n cap:Nat} {zs:List tar.Du} (h:tar.Came w a n cap zs) (hg:w.grownBy w' own) (hne:0<n→∀ x,a=some x→some x.block≠own):tar.Came w' a n cap zs:=⟨rowD_grown h.row hg hne,h.nil,h.room,h.bytes,h.wf⟩
def Cu.sold (x:Cu):Value:= .slice x.sp x.sn x.sc
def Cu.v (x:Cu):Value:= .agg x.cs.toArray
def Nums (x:Cu) (a:acc.Ac):Prop:=x.me=a.me∧x.rv=a.rv∧x.nx=a.nx∧x.mo=a.mo∧x.bo=a.bo∧x.fr=a.fr
structure Has (w:World) (base:Nat) (x:Cu) (c:Cm):Prop where
 num:Nums x c.a
 ds:deb.Fresh w base x.dp x.dn x.dc c.a.ds
 so:Lo w base x.sold c.so
def Apart (x y:Cu):Prop:=(∀ g,x.sold.ownBlock=some g→y.sold.ownBlock≠some g)∧(∀ g,x.sold.ownBlock=some g→0<y.dn→∀ p,y.dp=some p→p.block≠g)∧(∀ g,y.sold.ownBlock=some g→0<x.dn→∀ p,x.dp=some p→p.block≠g)
theorem Apart.symm {x y:Cu} (h:Apart x y):Apart y x:=⟨fun g h1 h2=>h.1 g h2 h1,h.2.2,h.2.1⟩
def Off (x:Cu) (own:Option Nat):Prop:=(∀ g,x.sold.ownBlock=some g→own≠some g)∧(0<x.dn→∀ p,x.dp=some p→some p.block≠own)
theorem Has.next {w w':World} {base:Nat} {x:Cu} {c:Cm} (h:Has w base x c) (hb:Below w.heap.size w w'):Has w' base x c:=⟨h.num,h.ds.below hb,h.so.next hb⟩
theorem Has.kept {w w':World} {base:Nat} {own:Option Nat} {x:Cu} {c:Cm} (h:Has w base x c) (hg:w.grownBy w' own) (ho:Off x own):Has w' base x c:=⟨h.num,⟨came_grown h.ds.came hg ho.2,h.ds.new⟩,h.so.kept hg ho.1⟩
structure Holds (w:World) (base:Nat) (V:Value) (xs:List Cu) (bk:List Cm):Prop where
 row:Lc w base V xs
 len:xs.length=bk.length
 has:∀ i,i<xs.length→Has w base (xs.getD i cu0) (bk.getD i cm0)
 off:∀ i,i<xs.length→Off (xs.getD i cu0) V.ownBlock
 self:∀ i,i<xs.length→∀ g,(xs.getD i cu0).sold.ownBlock=some g→0<(xs.getD i cu0).dn→∀ p,(xs.getD i cu0).dp=some p→p.block≠g
 apart:∀ i j,i<xs.length→j<xs.length→i≠j→Apart (xs.getD i cu0) (xs.getD j cu0)
theorem Holds.zero (w:World) (base:Nat):Holds w base (zS) [] []:=⟨Lc.zero _ _,rfl,(fun i hi=>by cases hi),(fun i hi=>by cases hi),(fun i hi=>by cases hi),(fun i j hi=>by cases hi)⟩
theorem Holds.next {w w':World} {base:Nat} {V:Value} {xs:List Cu} {bk:List Cm} (h:Holds w base V xs bk) (hb:Below w.heap.size w w'):Holds w' base V xs bk:=⟨h.row.next hb,h.len,fun i hi=>(h.has i hi).next hb,h.off,h.self,h.apart⟩
theorem getD_snoc {α:Type} (l:List α) (x d:α) (i:Nat) (hi:i<l.length+1):(l++[x]).getD i d=if i<l.length then l.getD i d else x:=by
 by_cases h:i<l.length
 ·rw [if_pos h];simp [List.getD,List.getElem?_append_left h]
 ·have:i=l.length:=by omega
  subst this;rw [if_neg h];simp [List.getD]
theorem Holds.snoc {w w':World} {base:Nat} {V V':Value} {xs:List Cu} {bk:List Cm} {x:Cu} {c:Cm} (h:Holds w base V xs bk) (hx:Has w base x c) (hxs:x.sold.ownBlock=none) (hxd:x.dn=0)
  (hr:Lc w' base V' (xs++[x])) (hg:w.grownBy w' V.ownBlock) (ho:V'.ownBlock=V.ownBlock∨V'.ownBlock=some w.heap.size):Holds w' base V' (xs++[x]) (bk++[c]):=by
 have hnew:∀ y:Cu,Off y V.ownBlock→(∀ g,y.sold.ownBlock=some g→g<w.heap.size)→(0<y.dn→∀ p,y.dp=some p→p.block<w.heap.size)→Off y V'.ownBlock:=fun y h1 h2 h3=>by
  rcases ho with e | e
  ·rw [e];exact h1
  ·rw [e];exact ⟨fun g hg' q=>(by have:=h2 g hg';have:=Option.some.inj q;omega),fun hn p hp q=>(by have:=h3 hn p hp;have:=Option.some.inj q;omega)⟩
 have lt1:∀ i,i<xs.length→∀ g,(xs.getD i cu0).sold.ownBlock=some g→g<w.heap.size:=fun i hi g hgg=>(World.ownsRow.lt (h.has i hi).so g hgg).2
 have lt2:∀ i,i<xs.length→0<(xs.getD i cu0).dn→∀ p,(xs.getD i cu0).dp=some p→p.block<w.heap.size:=fun i hi hn p hp=>by
  obtain ⟨b,off,e,lb,_⟩:=(h.has i hi).ds.came.row.at hn;rw [hp] at e;rw [Option.some.inj e];exact lb
 have offx:Off x V.ownBlock:=⟨fun g hgg=>(by rw [hxs] at hgg;cases hgg),fun hn=>by omega⟩
 have apx:∀ y:Cu,Apart y x:=fun y=>⟨fun g h1 h2=>(by rw [hxs] at h2;cases h2),fun g h1 hn=>(by omega),fun g h1=>(by rw [hxs] at h1;cases h1)⟩;have offx':Off x V'.ownBlock:=⟨fun g hgg=>(by rw [hxs] at hgg;cases hgg),fun hn=>by omega⟩
 refine ⟨hr,by rw [List.length_append,List.length_append,h.len];rfl,fun i hi=>?_,fun i hi=>?_,fun i hi=>?_,fun i j hi hj hij=>?_⟩
 all_goals simp only [List.length_append,List.length_cons,List.length_nil] at hi
 ·rw [getD_snoc xs x cu0 i hi,getD_snoc bk c cm0 i (by rw [← h.len];exact hi)];by_cases q:i<xs.length
  ·rw [if_pos q,if_pos (by rw [← h.len];exact q)];exact (h.has i q).kept hg (h.off i q)
  ·rw [if_neg q,if_neg (by rw [← h.len];exact q)];exact hx.kept hg offx
 ·rw [getD_snoc xs x cu0 i hi];by_cases q:i<xs.length
  ·rw [if_pos q];exact hnew _ (h.off i q) (lt1 i q) (lt2 i q)
  ·rw [if_neg q];exact offx'
 ·rw [getD_snoc xs x cu0 i hi];by_cases q:i<xs.length
  ·rw [if_pos q];exact h.self i q
  ·rw [if_neg q];intro g hgg;rw [hxs] at hgg;cases hgg
 ·simp only [List.length_append,List.length_cons,List.length_nil] at hj;rw [getD_snoc xs x cu0 i hi,getD_snoc xs x cu0 j hj];by_cases q:i<xs.length <;> by_cases q':j<xs.length
  ·rw [if_pos q,if_pos q'];exact h.apart i j q q' hij
  ·rw [if_pos q,if_neg q'];exact apx _
  ·rw [if_neg q,if_pos q'];exact (apx _).symm
  ·omega
theorem getD_put {α:Type} (l:List α) (x d:α) (k i:Nat) (hk:k<l.length):(l.set k x).getD i d=if i=k then x else l.getD i d:=by
 by_cases h:i=k
 ·subst h;rw [if_pos rfl];simp [List.getD,hk]
 ·rw [if_neg h];simp [List.getD,List.getElem?_set_ne (Ne.symm h)]
structure Turned (w w':World) (base:Nat) (x x':Cu) (c':Cm):Prop where
 grown:w.grownBy w' x.sold.ownBlock
 has:Has w' base x' c'
 own:∀ g,x'.sold.ownBlock=some g→x.sold.ownBlock=some g∨w.heap.size≤g
 new:0<x'.dn→∀ p,x'.dp=some p→w.heap.size≤p.block
 self:∀ g,x'.sold.ownBlock=some g→0<x'.dn→∀ p,x'.dp=some p→p.block≠g
theorem Holds.put {w w' w4:World} {base:Nat} {V:Value} {xs:List Cu} {bk:List Cm} {k:Nat} {x':Cu} {c':Cm} (h:Holds w base V xs bk) (hk:k<xs.length) (ht:Turned w w' base (xs.getD k cu0) x' c')
  (hr:Lc w4 base V (xs.set k x')) (hg:w'.grownBy w4 V.ownBlock):Holds w4 base V (xs.set k x') (bk.set k c'):=by
 have hkb:k<bk.length:=by rw [← h.len];exact hk
 have lt1:∀ i,i<xs.length→∀ g,(xs.getD i cu0).sold.ownBlock=some g→g<w.heap.size:=fun i hi g hgg=>(World.ownsRow.lt (h.has i hi).so g hgg).2
 have lt2:∀ i,i<xs.length→0<(xs.getD i cu0).dn→∀ p,(xs.getD i cu0).dp=some p→p.block<w.heap.size:=fun i hi hn p hp=>by
  obtain ⟨b,off,e,lb,_⟩:=(h.has i hi).ds.came.row.at hn;rw [hp] at e;rw [Option.some.inj e];exact lb
 have ltV:∀ g,V.ownBlock=some g→g<w.heap.size:=fun g hgg=>(World.ownsRow.lt h.row g hgg).2
 have offx:Off x' V.ownBlock:=⟨fun g hgg q=>by
  rcases ht.own g hgg with e | e
  ·exact (h.off k hk).1 g e q
  ·have:=ltV g q;omega,fun hn p hp q=>by
  have h1:=ht.new hn p hp;have h2:=ltV p.block q.symm
  omega⟩
 have apx:∀ i,i<xs.length→i≠k→Apart (xs.getD i cu0) x':=fun i hi hik=>by
  refine ⟨fun g h1 h2=>?_,fun g h1 hn p hp q=>?_,fun g h1 hn p hp q=>?_⟩
  ·rcases ht.own g h2 with e | e
   ·exact (h.apart i k hi hk hik).1 g h1 e
   ·have:=lt1 i hi g h1;omega
  ·have h3:=ht.new hn p hp;have h4:=lt1 i hi g h1;omega
  ·rcases ht.own g h1 with e | e
   ·exact (h.apart i k hi hk hik).2.2 g e hn p hp q
   ·have:=lt2 i hi hn p hp;omega
 refine ⟨hr,by rw [List.length_set,List.length_set,h.len],fun i hi=>?_,fun i hi=>?_,fun i hi=>?_,fun i j hi hj hij=>?_⟩
 all_goals rw [List.length_set] at hi
 ·rw [getD_put xs x' cu0 k i hk,getD_put bk c' cm0 k i hkb];by_cases q:i=k
  ·rw [if_pos q,if_pos q];exact ht.has.kept hg offx
  ·rw [if_neg q,if_neg q];have ap:=h.apart i k hi hk q
   have off1:Off (xs.getD i cu0) (xs.getD k cu0).sold.ownBlock:=⟨fun g h1 h2=>ap.1 g h1 h2,fun hn p hp e=>by
    exact ap.2.2 p.block e.symm hn p hp rfl⟩
   exact ((h.has i hi).kept ht.grown off1).kept hg (h.off i hi)
 ·rw [getD_put xs x' cu0 k i hk];by_cases q:i=k
  ·rw [if_pos q];exact offx
  ·rw [if_neg q];exact h.off i hi
 ·rw [getD_put xs x' cu0 k i hk];by_cases q:i=k
  ·rw [if_pos q];exact ht.self
  ·rw [if_neg q];exact h.self i hi
 ·rw [List.length_set] at hj;rw [getD_put xs x' cu0 k i hk,getD_put xs x' cu0 k j hk];by_cases q:i=k <;> by_cases q':j=k
  ·omega
  ·rw [if_pos q,if_neg q'];exact (apx j hj q').symm
  ·rw [if_neg q,if_pos q'];exact apx i hi q
  ·rw [if_neg q,if_neg q'];exact h.apart i j hi hj hij
structure Sees (w:World) (p:Option Addr) (n:Nat) (xs:List Cu) (bk:List Cm):Prop where
 row:RowC w p n xs
 len:xs.length=bk.length
 num:∀ i,i<xs.length→Nums (xs.getD i cu0) (bk.getD i cm0).a
 ds:∀ i,i<xs.length→tar.Came w (xs.getD i cu0).dp (xs.getD i cu0).dn (xs.getD i cu0).dc (bk.getD i cm0).a.ds
 so:∀ i,i<xs.length→RowS w (xs.getD i cu0).sp (xs.getD i cu0).sn (bk.getD i cm0).so
theorem Sees.below {w w':World} {p:Option Addr} {n:Nat} {xs:List Cu} {bk:List Cm} (h:Sees w p n xs bk) (hb:Below w.heap.size w w'):Sees w' p n xs bk:=⟨h.row.below hb,h.len,h.num,fun i hi=>(h.ds i hi).below hb,fun i hi=>(h.so i hi).below hb⟩
theorem Holds.sees {w:World} {base:Nat} {V:Value} {xs:List Cu} {bk:List Cm} (h:Holds w base V xs bk):∃ p cap,V = .slice p xs.length cap∧Sees w p xs.length xs bk:=by
 obtain ⟨p,cap,hv,hr,_,_⟩:=h.row.row;refine ⟨p,cap,hv,hr,h.len,fun i hi=>(h.has i hi).num,fun i hi=>(h.has i hi).ds.came,fun i hi=>?_⟩;obtain ⟨a,c,e,r,_⟩:=(h.has i hi).so.row;unfold Cu.sold at e;injection e with e1 e2 _
 rw [e1,e2];exact r
end book
namespace cell
open Go.RowKit
theorem may_yes (n:Int) (w:World) (h1:1≤n) (h2:n≤2048) :
  Calls Tryz.prog 46 #[zI n] w fun e w'=>e = .returned (.bool true)∧w'=w:=by
 go_enter Tryz.func46,Tryz.ntmps46;go_wp2;go_ret;exact ⟨rfl,rfl⟩
end cell
namespace disk
open Go.RowKit cell
theorem blank_cap (n:Nat) (w:World) (h1:1≤n) (h2:n≤2048) :
  Calls Tryz.prog 32 #[zI (n:Int)] w fun e w'=>GaveC w (List.replicate n 0) 0 e w':=by
 have HM:Hid (∀ W,Calls Tryz.prog 46 #[zI (n:Int)] W fun e w'=>e = .returned (.bool true)∧w'=W):=fun W=>may_yes _ W (by omega) (by omega);have hmk:∀ W:World,(Instr.makeSlice 25 (zI (n:Int)) (zI (n:Int))).run Tryz.prog W = .ok (.slice (some ⟨W.heap.size,0,none⟩) n n) (W.alloc (.cells (arr (List.replicate n 0)) 99)):=make_u32 n (by omega);have HL:Hid ((List.replicate n (0:Int)).length=n):=List.length_replicate;generalize List.replicate n (0:Int)=zs at *;go_enter Tryz.func32,Tryz.ntmps32;go_wp2_with fail;refine (HM.o _).mono ?_;rintro e w1 ⟨rfl,rfl⟩;go_wp2_with fail;go_ret2;exact GaveC.mk (Blk.rowU (Blk.new _ _ _) HL.o) (fun h=>by cases h) (Nat.le_refl _) ((Below.refl _ _).alloc (Nat.le_refl _) _)
end disk
namespace book
open Go.RowKit
open acc (Ac Tm Bi APost BPost OweIs SellIs GrantIs RekeyIs)
theorem acc_upd {w W:World} {g:Nat} {cs:Array Value} {ty:TypeId} {a:Option Addr} {n cap:Nat} {zs:List tar.Du} (h:tar.Came w a n cap zs) (hU:Upd w W g cs ty) (hne:0<n→∀ x,a=some x→x.block≠g):tar.Came W a n cap zs:=by
 refine ⟨⟨h.row.1,?_⟩,h.nil,h.room,h.bytes,h.wf⟩;rcases h.row.2 with h0 | ⟨b,off,rfl,hc⟩
 ·exact .inl h0
 ·refine .inr ⟨b,off,rfl,fun i hi=>?_⟩;have h1:=hc i hi;have hb:b≠g:=hne (by omega) ⟨b,off,none⟩ rfl;rw [hU.cell ⟨b,off+i*2,none⟩ hb rfl,hU.cell ⟨b,off+i*2+1,none⟩ hb rfl];exact h1
theorem lo_upd {w W:World} {base g:Nat} {cs:Array Value} {t:TypeId} {v:Value} {l:List So} (h:Lo w base v l) (hU:Upd w W g cs t) (hg:∀ k,v.ownBlock=some k→k≠g):Lo W base v l:=by
 refine ⟨h.1,?_⟩;rcases h.2 with hn | ⟨g',cap,cur,hv,hb,hc,rest⟩
 ·exact .inl hn
 ·exact .inr ⟨g',cap,cur,hv,hb,by rw [hU.oth g' (hg g' (by rw [hv];rfl))];exact hc,rest⟩
open cell
def DecGot (w:World) (l:List Int) (e:Ending) (w':World):Prop:=∃ v f,e = .returned (.tuple #[Ev.v v,zI f])∧DecIs l v f∧Below w.heap.size w w'
def KDec:Prop:=∀ (W:World) (a:Option Addr) (n cap:Nat) (l:List Int),RowU W a n l→(a=none→cap=0)→n≤cap→n*4≤140737488351232→(∀ x∈l,0≤x∧x<4294967296)→Calls Tryz.prog 36 #[.slice a n cap] W fun e w'=>DecGot W l e w'
end book
namespace acc
open tar (Du)
open Go.RowKit
def KcCheck:Prop:=∀ (W:World) (t:Tm) (pt:Option Addr) (lt ct:Nat),TCame W t pt lt ct→Calls Tryz.prog 37 #[t.v pt lt ct] W fun e w'=>tar.ErrPost W (TFault t) e w'
end acc
namespace tar
open Go.RowKit
open Classical in
theorem kcheck:KtCheck:=by
 intro w a n cap ls hcame;have hr:=hcame.row;have hn:=hcame.most;clear hcame;have hlen:=hr.1;have HIU:Hid (∀ x W,Calls Tryz.prog 113 #[zI 1,zI 10000000,zI x] W fun e w'=>e = .returned (.bool (decide (1≤x∧x≤10000000)))∧w'=W):=fun x W=>pwithin 1 10000000 x W;have HIP:Hid (∀ x W,Calls Tryz.prog 113 #[zI 1,zI 100000,zI x] W fun e w'=>e = .returned (.bool (decide (1≤x∧x≤100000)))∧w'=W):=fun x W=>pwithin 1 100000 x W;by_cases hs:1≤n∧n≤8
 ·have HS:Hid (Sized ls):=by show 1≤ls.length∧ls.length≤8;rw [hlen];exact hs
  obtain ⟨hs1,hs2⟩:=hs;have hd0:((n:Int) == 0)=false:=by simp;omega
  have hd8:decide ((8:Int)<(n:Int))=false:=by simp;omega
  obtain ⟨b,off,rfl,hbl,hc⟩:=hr.at hs1;have HC:Hid (∀ i,i<n→w.cell? ⟨b,off+i*2,none⟩=some (zI (ls.getD i du0).a)∧w.cell? ⟨b,off+i*2+1,none⟩=some (zI (ls.getD i du0).b)):=hc;have HLEN:Hid (ls.length=n):=hlen;have HRS:Hid (∀ W,Below w.heap.size w W→Calls Tryz.prog 114 #[.slice (some ⟨b,off,none⟩) n cap] W fun e w'=>e = .returned (.bool (decide (Rises ls)))∧Below W.heap.size W w'):=fun W hW=>prises b off n cap ls W hs1 hs2 hlen (Nat.lt_of_lt_of_le hbl hW.size) (fun i hi=>⟨(hW.cell (p:=⟨b,off+i*2,none⟩) hbl).trans (hc i hi).1,(hW.cell (p:=⟨b,off+i*2+1,none⟩) hbl).trans (hc i hi).2⟩);have hnm:n≤9223372036854775807:=by omega
  clear hc hr hn hlen;go_enter Tryz.func68,Tryz.ntmps68;go_wp2_with fail;go_loopw [15] (fun x wr=>∃ k:Nat,k≤n∧x=zI (k:Int)∧(∀ i,i<k→(1≤(ls.getD i du0).a∧(ls.getD i du0).a≤10000000)∧1≤(ls.getD i du0).b∧(ls.getD i du0).b≤100000)∧Below w.heap.size w wr) (fun x _=>n - (intOf x).toNat)
  case atStart=>exact ⟨0,Nat.zero_le _,rfl,fun i hi=>absurd hi (Nat.not_lt_zero _),Below.refl _ _⟩
  case round=>
   obtain ⟨k,hk,rfl,hf,hb⟩:=hrel;have HF:Hid (∀ i,i<k→(1≤(ls.getD i du0).a∧(ls.getD i du0).a≤10000000)∧1≤(ls.getD i du0).b∧(ls.getD i du0).b≤100000):=hf;have HB:Hid (Below w.heap.size w wr):=hb;clear hf;by_cases hlt:k<n
   ·have hdl:decide ((k:Int)<(n:Int))=true:=by simp;omega
    have c0:wr.cell? ⟨b,off+k*2,none⟩=some (zI (ls.getD k du0).a):=(hb.cell (p:=⟨b,off+k*2,none⟩) hbl).trans (HC.o k hlt).1;have c1:wr.cell? ⟨b,off+k*2+1,none⟩=some (zI (ls.getD k du0).b):=(hb.cell (p:=⟨b,off+k*2+1,none⟩) hbl).trans (HC.o k hlt).2;have HBA:Hid (∀ o,Below w.heap.size w (wr.alloc o)):=fun o=>hb.alloc hb.size o;clear hb;have HU:=HIU.o (ls.getD k du0).a;have HP:=HIP.o (ls.getD k du0).b;by_cases hu:1≤(ls.getD k du0).a∧(ls.getD k du0).a≤10000000
    ·rw [decide_eq_true hu] at HU;by_cases hp:1≤(ls.getD k du0).b∧(ls.getD k du0).b≤100000
     ·rw [decide_eq_true hp] at HP
      have HF2:Hid (∀ i,i<k+1→(1≤(ls.getD i du0).a∧(ls.getD i du0).a≤10000000)∧1≤(ls.getD i du0).b∧(ls.getD i du0).b≤100000):=fun i hi=>by
       by_cases e:i=k
       ·subst e;exact ⟨hu,hp⟩
       ·exact HF.o i (by omega)
      have HU2:Hid (∀ W,Calls Tryz.prog 113 #[zI 1,zI 10000000,zI (ls.getD k du0).a] W fun e w'=>e = .returned (.bool true)∧w'=W):=HU;have HP2:Hid (∀ W,Calls Tryz.prog 113 #[zI 1,zI 100000,zI (ls.getD k du0).b] W fun e w'=>e = .returned (.bool true)∧w'=W):=HP;clear HU HP hu hp HF;generalize (ls.getD k du0).a=x at *;generalize (ls.getD k du0).b=y at *;go_wp2_with fail;refine (HU2.o _).mono ?_;rintro e w2 ⟨rfl,hw2⟩;subst w2;go_wp2_with fail;refine (HP2.o _).mono ?_;rintro e w2 ⟨rfl,hw2⟩;subst w2;go_wp2_with fail;go_roundw
      case rel=>exact ⟨k+1,by omega,by go_num,HF2.o,HBA.o _⟩
      case measure=>simp [intOf];omega
     ·rw [decide_eq_false hp] at HP;have HN:Hid (¬ Fits ls):=fun h=>hp (h k (by rw [HLEN.o];exact hlt)).2;have HU2:Hid (∀ W,Calls Tryz.prog 113 #[zI 1,zI 10000000,zI (ls.getD k du0).a] W fun e w'=>e = .returned (.bool true)∧w'=W):=HU;have HP2:Hid (∀ W,Calls Tryz.prog 113 #[zI 1,zI 100000,zI (ls.getD k du0).b] W fun e w'=>e = .returned (.bool false)∧w'=W):=HP;clear HU HP hu hp HF;generalize (ls.getD k du0).a=x at *;generalize (ls.getD k du0).b=y at *;go_wp2_with fail;refine (HU2.o _).mono ?_;rintro e w2 ⟨rfl,hw2⟩;subst w2;go_wp2_with fail;refine (HP2.o _).mono ?_;rintro e w2 ⟨rfl,hw2⟩;subst w2;go_wp2_with fail;go_ret;exact ⟨_,rfl,.inr (.inl ⟨HS.o,HN.o,rfl⟩),HBA.o _⟩
    ·rw [decide_eq_false hu] at HU;have HN:Hid (¬ Fits ls):=fun h=>hu (h k (by rw [HLEN.o];exact hlt)).1;have HU2:Hid (∀ W,Calls Tryz.prog 113 #[zI 1,zI 10000000,zI (ls.getD k du0).a] W fun e w'=>e = .returned (.bool false)∧w'=W):=HU;clear HU HP hu HF;generalize (ls.getD k du0).a=x at *;generalize (ls.getD k du0).b=y at *;go_wp2_with fail;refine (HU2.o _).mono ?_;rintro e w2 ⟨rfl,hw2⟩;subst w2;go_wp2_with fail;go_ret;exact ⟨_,rfl,.inr (.inl ⟨HS.o,HN.o,rfl⟩),HBA.o _⟩
   ·obtain rfl:k=n:=by omega
    have hdl:decide ((k:Int)<(k:Int))=false:=by simp
    have HFT:Hid (Fits ls):=fun i hi=>HF.o i (by rw [HLEN.o] at hi;exact hi);have HR:=HRS.o wr hb;clear HF HIU HIP HRS hb;have HE:Hid (Ends ls↔(ls.getD (k - 1) du0).a=10000000):=by show Ends ls↔_;unfold Ends;rw [HLEN.o]
    have HC1:Hid (∀ W,Below wr.heap.size wr W→W.cell? ⟨b,off+(k - 1)*2,none⟩=some (zI (ls.getD (k - 1) du0).a)):=fun W hW=>((HB.o.trans (hW.mono HB.o.size)).cell (p:=⟨b,off+(k - 1)*2,none⟩) hbl).trans (HC.o (k - 1) (by omega)).1;have hsub:((k:Int) - 1)=((k - 1:Nat):Int):=by omega
    have hjm:k - 1<k:=by omega
    by_cases hri:Rises ls
    ·rw [decide_eq_true hri] at HR;have HR2:Hid (Calls Tryz.prog 114 #[.slice (some ⟨b,off,none⟩) k cap] wr fun e w'=>e = .returned (.bool true)∧Below wr.heap.size wr w'):=HR;have HRI:Hid (Rises ls):=hri;clear HR hri;go_wp2_with fail;refine HR2.o.mono ?_;rintro e w2 ⟨rfl,hw2⟩;have c1:=HC1.o w2 hw2;have HB2:=shB HB hw2;clear hw2 HR2;by_cases he:(ls.getD (k - 1) du0).a=10000000
     ·have HRT:Hid (Right ls):=⟨HS.o,HFT.o,HRI.o,HE.o.2 he⟩
      have hne:((ls.getD (k - 1) du0).a != 10000000)=false:=by rw [he];rfl
      clear he HE HC1;generalize (ls.getD (k - 1) du0).a=y at *;generalize k - 1=j1 at *;go_wp2_with fail;go_ret;exact ⟨_,rfl,.inr (.inr (.inr ⟨HRT.o,rfl⟩)),HB2.o⟩
     ·have HN:Hid (¬ (Rises ls∧Ends ls)):=fun h=>he (HE.o.1 h.2);have hne:((ls.getD (k - 1) du0).a != 10000000)=true:=by simpa using he
      clear he HE HC1;generalize (ls.getD (k - 1) du0).a=y at *;generalize k - 1=j1 at *;go_wp2_with fail;go_ret;exact ⟨_,rfl,.inr (.inr (.inl ⟨HS.o,HFT.o,HN.o,rfl⟩)),HB2.o⟩
    ·rw [decide_eq_false hri] at HR;have HR2:Hid (Calls Tryz.prog 114 #[.slice (some ⟨b,off,none⟩) k cap] wr fun e w'=>e = .returned (.bool false)∧Below wr.heap.size wr w'):=HR;have HN:Hid (¬ (Rises ls∧Ends ls)):=fun h=>hri h.1;clear HR hri;go_wp2_with fail;refine HR2.o.mono ?_;rintro e w2 ⟨rfl,hw2⟩;have HB2:=shB HB hw2;clear hw2 HR2 HE HC1;generalize k - 1=j1 at *;go_wp2_with fail;go_ret;exact ⟨_,rfl,.inr (.inr (.inl ⟨HS.o,HFT.o,HN.o,rfl⟩)),HB2.o⟩
 ·have HS:Hid (¬ Sized ls):=by show ¬ (1≤ls.length∧ls.length≤8);rw [hlen];exact hs
  have hnm:n≤9223372036854775807:=by unfold maxLen at hn;omega
  clear hr hlen hn;by_cases h0:n=0
  ·subst h0;clear hs hnm;go_enter Tryz.func68,Tryz.ntmps68;go_wp2_with fail;go_ret;exact ⟨_,rfl,.inl ⟨HS.o,rfl⟩,Below.refl _ _⟩
  ·have hd0:((n:Int) == 0)=false:=by simp;omega
   have hd8:decide ((8:Int)<(n:Int))=true:=by simp;omega
   clear hs h0;go_enter Tryz.func68,Tryz.ntmps68;go_wp2_with fail;go_ret;exact ⟨_,rfl,.inl ⟨HS.o,rfl⟩,Below.refl _ _⟩
def KtMost:Prop:=∀ (W:World) (a:Option Addr) (len cap:Nat) (ls:List Du) (x n:Int),Came W a len cap ls→(Lit.int .i64 x).wf=true→(Lit.int .i64 n).wf=true→Calls Tryz.prog 166 #[.slice a len cap,zI x,zI n] W fun e w'=>ThreePost W (MostIs ls x n) e w'
end tar
namespace deb
open tar (Du du0 Came TwoPost)
open Go.RowKit
def KdTotal:Prop:=∀ (W:World) (a:Option Addr) (len cap:Nat) (ls:List Du),Came W a len cap ls→Calls Tryz.prog 184 #[.slice a len cap] W fun e w'=>TwoPost W (OwedIs ls) e w'
end deb
namespace acc
open tar (Du)
open Go.RowKit
def KcRekey:Prop:=∀ (W:World) (x:Ac) (p:Option Addr) (len cap:Nat),ACame W x p len cap→Calls Tryz.prog 79 #[x.v p len cap] W fun e w'=>BPost W (RekeyIs x) e w'
def KcOwe:Prop:=∀ (W:World) (x:Ac) (p:Option Addr) (len cap:Nat) (q:Du),ACame W x p len cap→(Lit.int .i64 q.a).wf=true∧(Lit.int .i64 q.b).wf=true→Calls Tryz.prog 75 #[x.v p len cap,.agg #[zI q.a,zI q.b]] W fun e w'=>APost W (OweIs x q) e w'
end acc
namespace book
open Go.RowKit cell
theorem take_next (l:List Int) (k:Nat) (h:k<l.length):l.take k++[l.getD k 0]=l.take (k+1):=by
 rw [List.take_add_one];simp [List.getD,List.getElem?_eq_getElem h]
theorem index13_0 (a0 a1 a2 a3 a4 a5 a6 a7 a8 a9 a10 a11 a12:Int) (W:World):(Instr.index 270 (.agg #[zI a0,zI a1,zI a2,zI a3,zI a4,zI a5,zI a6,zI a7,zI a8,zI a9,zI a10,zI a11,zI a12]) (zI 0)).run Tryz.prog W = .ok (zI a0) W:=by kernel_rfl
theorem index13_1 (a0 a1 a2 a3 a4 a5 a6 a7 a8 a9 a10 a11 a12:Int) (W:World):(Instr.index 270 (.agg #[zI a0,zI a1,zI a2,zI a3,zI a4,zI a5,zI a6,zI a7,zI a8,zI a9,zI a10,zI a11,zI a12]) (zI 1)).run Tryz.prog W = .ok (zI a1) W:=by kernel_rfl
theorem index13_2 (a0 a1 a2 a3 a4 a5 a6 a7 a8 a9 a10 a11 a12:Int) (W:World):(Instr.index 270 (.agg #[zI a0,zI a1,zI a2,zI a3,zI a4,zI a5,zI a6,zI a7,zI a8,zI a9,zI a10,zI a11,zI a12]) (zI 2)).run Tryz.prog W = .ok (zI a2) W:=by kernel_rfl
theorem index13_3 (a0 a1 a2 a3 a4 a5 a6 a7 a8 a9 a10 a11 a12:Int) (W:World):(Instr.index 270 (.agg #[zI a0,zI a1,zI a2,zI a3,zI a4,zI a5,zI a6,zI a7,zI a8,zI a9,zI a10,zI a11,zI a12]) (zI 3)).run Tryz.prog W = .ok (zI a3) W:=by kernel_rfl
theorem index13_4 (a0 a1 a2 a3 a4 a5 a6 a7 a8 a9 a10 a11 a12:Int) (W:World):(Instr.index 270 (.agg #[zI a0,zI a1,zI a2,zI a3,zI a4,zI a5,zI a6,zI a7,zI a8,zI a9,zI a10,zI a11,zI a12]) (zI 4)).run Tryz.prog W = .ok (zI a4) W:=by kernel_rfl
theorem index13_5 (a0 a1 a2 a3 a4 a5 a6 a7 a8 a9 a10 a11 a12:Int) (W:World):(Instr.index 270 (.agg #[zI a0,zI a1,zI a2,zI a3,zI a4,zI a5,zI a6,zI a7,zI a8,zI a9,zI a10,zI a11,zI a12]) (zI 5)).run Tryz.prog W = .ok (zI a5) W:=by kernel_rfl
theorem index13_6 (a0 a1 a2 a3 a4 a5 a6 a7 a8 a9 a10 a11 a12:Int) (W:World):(Instr.index 270 (.agg #[zI a0,zI a1,zI a2,zI a3,zI a4,zI a5,zI a6,zI a7,zI a8,zI a9,zI a10,zI a11,zI a12]) (zI 6)).run Tryz.prog W = .ok (zI a6) W:=by kernel_rfl
theorem index13_7 (a0 a1 a2 a3 a4 a5 a6 a7 a8 a9 a10 a11 a12:Int) (W:World):(Instr.index 270 (.agg #[zI a0,zI a1,zI a2,zI a3,zI a4,zI a5,zI a6,zI a7,zI a8,zI a9,zI a10,zI a11,zI a12]) (zI 7)).run Tryz.prog W = .ok (zI a7) W:=by kernel_rfl
theorem index13_8 (a0 a1 a2 a3 a4 a5 a6 a7 a8 a9 a10 a11 a12:Int) (W:World):(Instr.index 270 (.agg #[zI a0,zI a1,zI a2,zI a3,zI a4,zI a5,zI a6,zI a7,zI a8,zI a9,zI a10,zI a11,zI a12]) (zI 8)).run Tryz.prog W = .ok (zI a8) W:=by kernel_rfl
theorem index13_9 (a0 a1 a2 a3 a4 a5 a6 a7 a8 a9 a10 a11 a12:Int) (W:World):(Instr.index 270 (.agg #[zI a0,zI a1,zI a2,zI a3,zI a4,zI a5,zI a6,zI a7,zI a8,zI a9,zI a10,zI a11,zI a12]) (zI 9)).run Tryz.prog W = .ok (zI a9) W:=by kernel_rfl
theorem index13_10 (a0 a1 a2 a3 a4 a5 a6 a7 a8 a9 a10 a11 a12:Int) (W:World):(Instr.index 270 (.agg #[zI a0,zI a1,zI a2,zI a3,zI a4,zI a5,zI a6,zI a7,zI a8,zI a9,zI a10,zI a11,zI a12]) (zI 10)).run Tryz.prog W = .ok (zI a10) W:=by kernel_rfl
theorem index13_11 (a0 a1 a2 a3 a4 a5 a6 a7 a8 a9 a10 a11 a12:Int) (W:World):(Instr.index 270 (.agg #[zI a0,zI a1,zI a2,zI a3,zI a4,zI a5,zI a6,zI a7,zI a8,zI a9,zI a10,zI a11,zI a12]) (zI 11)).run Tryz.prog W = .ok (zI a11) W:=by kernel_rfl
theorem index13_12 (a0 a1 a2 a3 a4 a5 a6 a7 a8 a9 a10 a11 a12:Int) (W:World):(Instr.index 270 (.agg #[zI a0,zI a1,zI a2,zI a3,zI a4,zI a5,zI a6,zI a7,zI a8,zI a9,zI a10,zI a11,zI a12]) (zI 12)).run Tryz.prog W = .ok (zI a12) W:=by kernel_rfl
theorem index13 (a0 a1 a2 a3 a4 a5 a6 a7 a8 a9 a10 a11 a12:Int) (k:Nat) (hk:k<13) (W:World):(Instr.index 270 (.agg #[zI a0,zI a1,zI a2,zI a3,zI a4,zI a5,zI a6,zI a7,zI a8,zI a9,zI a10,zI a11,zI a12]) (zI (k:Int))).run Tryz.prog W = .ok (zI ([a0,a1,a2,a3,a4,a5,a6,a7,a8,a9,a10,a11,a12].getD k 0)) W:=by
 match k,hk with
 | 0,_=>exact index13_0 a0 a1 a2 a3 a4 a5 a6 a7 a8 a9 a10 a11 a12 W
 | 1,_=>exact index13_1 a0 a1 a2 a3 a4 a5 a6 a7 a8 a9 a10 a11 a12 W
 | 2,_=>exact index13_2 a0 a1 a2 a3 a4 a5 a6 a7 a8 a9 a10 a11 a12 W
 | 3,_=>exact index13_3 a0 a1 a2 a3 a4 a5 a6 a7 a8 a9 a10 a11 a12 W
 | 4,_=>exact index13_4 a0 a1 a2 a3 a4 a5 a6 a7 a8 a9 a10 a11 a12 W
 | 5,_=>exact index13_5 a0 a1 a2 a3 a4 a5 a6 a7 a8 a9 a10 a11 a12 W
 | 6,_=>exact index13_6 a0 a1 a2 a3 a4 a5 a6 a7 a8 a9 a10 a11 a12 W
 | 7,_=>exact index13_7 a0 a1 a2 a3 a4 a5 a6 a7 a8 a9 a10 a11 a12 W
 | 8,_=>exact index13_8 a0 a1 a2 a3 a4 a5 a6 a7 a8 a9 a10 a11 a12 W
 | 9,_=>exact index13_9 a0 a1 a2 a3 a4 a5 a6 a7 a8 a9 a10 a11 a12 W
 | 10,_=>exact index13_10 a0 a1 a2 a3 a4 a5 a6 a7 a8 a9 a10 a11 a12 W
 | 11,_=>exact index13_11 a0 a1 a2 a3 a4 a5 a6 a7 a8 a9 a10 a11 a12 W
 | 12,_=>exact index13_12 a0 a1 a2 a3 a4 a5 a6 a7 a8 a9 a10 a11 a12 W
theorem make13 (w:World):(Instr.makeSlice 25 (zI 0) (zI 13)).run Tryz.prog w = .ok (.slice (some ⟨w.heap.size,0,none⟩) 0 13) (w.alloc (.cells (madeCells (Value.int .u32 0).cells 13) 99)):=by
 obtain ⟨i0,hi,hz0,hz1,hz2⟩:=info_parts info_u32;have:=run_make (P:=Tryz.prog) w 25 99 i0 (.int .u32 0) Tryz.underlying25 hi hz0 .i64 .i64 0 13 (by omega) (by omega) (by rw [hz2];decide) (by omega);rw [hz1] at this;exact this
theorem bwords (v:Ev) (hm:∀ x∈evL v,0≤x∧x<4294967296) (w:World):Calls Tryz.prog 153 #[.agg #[zI v.kd,zI v.me,zI v.mo,zI v.id,zI v.te,zI v.de,zI v.fe,zI v.pr,zI v.ch,zI v.un,zI v.tg,zI v.ow,zI v.bp]] w fun e w'=>∃ V,e = .returned V∧Ws w' w.heap.size V (evL v)∧Below w.heap.size w w':=by
 have HM:Hid (∀ k,k<13→0≤(evL v).getD k 0∧(evL v).getD k 0<4294967296):=fun k hk=>hm _ (by
  have hl:k<(evL v).length:=hk;rw [show (evL v).getD k 0=(evL v)[k] by simp [List.getD,List.getElem?_eq_getElem hl]]
  exact List.getElem_mem _)
 have HIX:Hid (∀ k:Nat,k<13→∀ W,(Instr.index 270 (.agg #[zI v.kd,zI v.me,zI v.mo,zI v.id,zI v.te,zI v.de,zI v.fe,zI v.pr,zI v.ch,zI v.un,zI v.tg,zI v.ow,zI v.bp]) (zI (k:Int))).run Tryz.prog W = .ok (zI ((evL v).getD k 0)) W):=fun k hk W=>index13 v.kd v.me v.mo v.id v.te v.de v.fe v.pr v.ch v.un v.tg v.ow v.bp k hk W;have HL:Hid ((evL v).length=13):=rfl;clear hm;have HB1:Hid (Below w.heap.size w ((w.alloc (.cells #[zI v.kd,zI v.me,zI v.mo,zI v.id,zI v.te,zI v.de,zI v.fe,zI v.pr,zI v.ch,zI v.un,zI v.tg,zI v.ow,zI v.bp] 72)).alloc (.cells #[zI v.kd,zI v.me,zI v.mo,zI v.id,zI v.te,zI v.de,zI v.fe,zI v.pr,zI v.ch,zI v.un,zI v.tg,zI v.ow,zI v.bp] 270))):=((Below.refl _ _).alloc (Nat.le_refl _) _).alloc (by simp) _;go_enter Tryz.func153,Tryz.ntmps153;go_upto_region 2 with fail
 generalize hW1:((w.alloc (.cells #[zI v.kd,zI v.me,zI v.mo,zI v.id,zI v.te,zI v.de,zI v.fe,zI v.pr,zI v.ch,zI v.un,zI v.tg,zI v.ow,zI v.bp] 72)).alloc (.cells #[zI v.kd,zI v.me,zI v.mo,zI v.id,zI v.te,zI v.de,zI v.fe,zI v.pr,zI v.ch,zI v.un,zI v.tg,zI v.ow,zI v.bp] 270))=W1 at *;have HA:Hid (Blk W1 (w.heap.size+1) #[zI v.kd,zI v.me,zI v.mo,zI v.id,zI v.te,zI v.de,zI v.fe,zI v.pr,zI v.ch,zI v.un,zI v.tg,zI v.ow,zI v.bp] 270):=by show Blk _ _ _ _;rw [← hW1];exact Blk.new1 _ _ _ _
 clear hW1;have hmk:=make13 W1;have hsz:w.heap.size≤W1.heap.size:=HB1.o.size;have HL0:Hid (Ws (W1.alloc (.cells (madeCells (Value.int .u32 0).cells 13) 99)) w.heap.size (.slice (some ⟨W1.heap.size,0,none⟩) 0 13) []):=World.ownsRow_made W1 _ 13 hsz (by unfold maxLen;omega) (size_madeCells _ _);have HB0:Hid (Below w.heap.size w (W1.alloc (.cells (madeCells (Value.int .u32 0).cells 13) 99))):=HB1.o.alloc HB1.o.size _;have HA0:Hid (Blk (W1.alloc (.cells (madeCells (Value.int .u32 0).cells 13) 99)) (w.heap.size+1) #[zI v.kd,zI v.me,zI v.mo,zI v.id,zI v.te,zI v.de,zI v.fe,zI v.pr,zI v.ch,zI v.un,zI v.tg,zI v.ow,zI v.bp] 270):=HA.o.alloc _;generalize (W1.alloc (.cells (madeCells (Value.int .u32 0).cells 13) 99))=W0 at *;clear HA HB1;obtain ⟨b0,b1,b2,b3,b4,b5,b6,b7,b8,b9,b10,b11,b12⟩:=scl13 HA0;go_wp2_with fail;clear hmk hsz b0 b1 b2 b3 b4 b5 b6 b7 b8 b9 b10 b11 b12;go_loopw [4,45] (fun v4 v45 wr=>∃ (k:Nat) (V:Value),k≤13∧V=v4∧v45=zI (k:Int)∧Ws wr w.heap.size V ((evL v).take k)∧Below w.heap.size w wr) (fun _ v45 _=>13 - (intOf v45).toNat)
 case atStart=>exact ⟨0,_,Nat.zero_le _,rfl,rfl,HL0.o,HB0.o⟩
 case round=>
  obtain ⟨k,V,hk,hV,rfl,hlw,hbl⟩:=hrel;subst hV;have hs6:((evL v).take k).length≤1000000:=by rw [List.length_take];omega
  have HUA:Hid (∀ o,Ws (wr.alloc o) w.heap.size V ((evL v).take k)):=fun o=>hlw.alloc o;have HBA:Hid (∀ o,Below w.heap.size w (wr.alloc o)):=fun o=>hbl.alloc hbl.size o;have HSA:Hid (∀ o,w.heap.size≤(wr.alloc o).heap.size):=fun o=>(hbl.alloc hbl.size o).size;have HBL:Hid (Below w.heap.size w wr):=hbl;have HUL:Hid (Ws wr w.heap.size V ((evL v).take k)):=hlw;clear hlw hbl HL0 HB0 HA0;by_cases hkm:k<13
  ·have hix:=HIX.o k hkm;have HPN:Hid ((evL v).take k++[(evL v).getD k 0]=(evL v).take (k+1)):=take_next _ k hkm;have hz:=HM.o k hkm;clear HIX HM;generalize (evL v).getD k 0=z at *;have hwz:IntKind.u32.wrap z=z:=by rw [IntKind.wrap_u32];omega
   have hwz2:z % 4294967296=z:=by omega
   have hdl:decide ((k:Int)<13)=true:=decide_eq_true (by omega);clear hz;go_wp2_with (first | (refine wp_word rfl _ _ rfl w.heap.size wr.heap.size V ((evL v).take k) z rfl rfl (HUA.o _) ((Blk.new wr _ _).cell 0) hs6 (HSA.o _) ?_;intro v3 w3 h3 hg3;have hb3:=own_bel (HUA.o _) hg3 (HBA.o _) (Nat.le_refl _) (HSA.o _);have H3:Hid (Ws w3 w.heap.size v3 ((evL v).take k++[z])):=h3;have HB3:Hid (Below w.heap.size w w3):=hb3;clear h3 hg3 hb3) | fail)
   go_roundw
   case rel=>exact ⟨k+1,v3,by omega,rfl,by go_num,by rw [← HPN.o];exact H3.o,HB3.o⟩
   case measure=>simp [intOf];omega
  ·have hdl:decide ((k:Int)<13)=false:=decide_eq_false (by omega)
   have HFN:Hid (Ws wr w.heap.size V (evL v)):=by
    have:=HUL.o;rw [List.take_of_length_le (by rw [HL.o];omega)] at this;exact this
   go_wp2_with fail;go_ret;exact ⟨V,rfl,HFN.o,HBL.o⟩
end book
end Go.Proofs.YtnpblpbohcegoaaGreatDoor
