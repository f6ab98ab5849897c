import Derived.Test.YtnpblpbohcegoaaGreatDoorVVRts11
import Derived.Test.YtnpblpbohcegoaaGreatDoorVVRts16
set_option linter.unusedVariables false
set_option linter.unusedSimpArgs false
set_option maxHeartbeats 4000000
set_option maxRecDepth 100000
namespace Go.Proofs.YtnpblpbohcegoaaGreatDoor
namespace book
open Go.RowKit
open acc (Ac Tm Bi APost BPost TFault TRight OpenIs OweIs SellIs GrantIs RekeyIs wf6 ACame TCame)
theorem wf_i {z:Int} (h0:-1≤z) (h1:z≤4000000000):(Lit.int .i64 z).wf=true:=by
 have h1:IntKind.i64.min≤z:=by
  have e:IntKind.i64.min=-9223372036854775808:=by decide
  omega
 have h2:z≤IntKind.i64.max:=by
  have e:IntKind.i64.max=9223372036854775807:=by decide
  omega
 show (decide (IntKind.i64.min≤z) && decide (z≤IntKind.i64.max))=true;rw [Bool.and_eq_true];exact ⟨decide_eq_true h1,decide_eq_true h2⟩
theorem may_wf {a:Ac} (h:acc.AMay a):wf6 a:=by
 obtain ⟨_,⟨a1,a2⟩,⟨b1,b2⟩,⟨c1,c2⟩,⟨d1,d2⟩,⟨e1,e2⟩,f1,f2⟩:=h;exact ⟨wf_i (by omega) (by omega),wf_i (by omega) (by omega),wf_i (by omega) (by omega),wf_i (by omega) (by omega),wf_i (by omega) (by omega),wf_i (by omega) (by omega)⟩
def AWf (bk:List Cm):Prop:=∀ c∈bk,wf6 c.a
theorem owe_wf {a b:Ac} {d:tar.Du} (h:OweIs a d b 0):wf6 b∧b.me=a.me:=by
 rcases h with ⟨_,_,e⟩ | ⟨_,_,_,e⟩ | ⟨_,_,_,_,e⟩ | ⟨p,_,_,rfl,_⟩
 ·cases e
 ·cases e
 ·cases e
 ·have h:=may_wf p;exact ⟨⟨h.1,h.2.1,h.2.2.1,h.2.2.2.1,h.2.2.2.2.1,h.2.2.2.2.2⟩,rfl⟩
theorem tells_wf {t:Tm} {c:Cm} {v:Ev} {b:Ac} {l:Bi} (h:Tells t c v b l 0) (hl:l.un≤2097151) (hl0:0≤l.un):wf6 b∧b.me=c.a.me:=by
 rcases h with ⟨_,h⟩ | ⟨_,h⟩ | ⟨_,h⟩
 ·rcases h with ⟨p,_,_⟩ | ⟨_,_,e,_⟩ | ⟨_,_,_,e,_⟩ | ⟨hr,_,_,_,u,_,rfl,rfl⟩
  ·exact absurd rfl (fun (q:(0:Int)=0)=>by
    rcases p with ⟨_,p⟩ | ⟨_,p,q'⟩ | ⟨_,_,_,p⟩
    ·cases p
    ·exact p (q'.ok.1 rfl)
    ·exact p.ne rfl)
  ·cases e
  ·cases e
  ·obtain ⟨_,⟨a1,a2⟩,⟨b1,b2⟩,⟨c1,c2⟩,⟨d1,d2⟩,⟨e1,e2⟩,f1,f2⟩:=hr.1;obtain ⟨_,_,_,_,⟨m1,m2⟩,⟨k1,k2⟩,_⟩:=acc.rolled_may hr.1 hr.2.2;have hm:=hr.2.2.1;have hu:u≤2097151:=hl;have hu0:0≤u:=hl0;refine ⟨⟨wf_i (z:=c.a.me) (by omega) (by omega),wf_i (z:=c.a.rv) (by omega) (by omega),wf_i (z:=c.a.nx+1) (by omega) (by omega),wf_i (z:=v.mo) (by omega) (by omega),wf_i (z:=(acc.rolled c.a v.mo).bo+u) (by omega) (by omega),wf_i (z:=c.a.fr) (by omega) (by omega)⟩,rfl⟩
 ·rcases h with ⟨p,_,_⟩ | ⟨_,_,e,_⟩ | ⟨_,_,_,e,_⟩ | ⟨_,_,_,_,e,_⟩ | ⟨hr,_,_,_,_,rfl,_⟩
  ·exact absurd rfl (fun (q:(0:Int)=0)=>by
    rcases p with ⟨_,p⟩ | ⟨_,p,q'⟩ | ⟨_,_,_,p⟩
    ·cases p
    ·exact p (q'.ok.1 rfl)
    ·exact p.ne rfl)
  ·cases e
  ·cases e
  ·cases e
  ·obtain ⟨_,⟨a1,a2⟩,⟨b1,b2⟩,⟨c1,c2⟩,⟨d1,d2⟩,⟨e1,e2⟩,f1,f2⟩:=hr.1;obtain ⟨_,_,_,_,⟨m1,m2⟩,⟨k1,k2⟩,_⟩:=acc.rolled_may hr.1 hr.2.2;have hm:=hr.2.2.1;exact ⟨⟨wf_i (z:=c.a.me) (by omega) (by omega),wf_i (z:=c.a.rv) (by omega) (by omega),wf_i (z:=c.a.nx+1) (by omega) (by omega),wf_i (z:=v.mo) (by omega) (by omega),wf_i (z:=(acc.rolled c.a v.mo).bo) (by omega) (by omega),wf_i (z:=v.mo) (by omega) (by omega)⟩,rfl⟩
 ·rcases h with ⟨_,_,_,e⟩ | ⟨_,_,_,_,e⟩ | ⟨_,_,_,_,_,e⟩ | ⟨hr,_,_,rfl,_,_⟩
  ·cases e
  ·cases e
  ·cases e
  ·obtain ⟨_,⟨a1,a2⟩,⟨b1,b2⟩,⟨c1,c2⟩,⟨d1,d2⟩,⟨e1,e2⟩,f1,f2⟩:=hr;exact ⟨⟨wf_i (z:=c.a.me) (by omega) (by omega),wf_i (z:=c.a.rv+1) (by omega) (by omega),wf_i (z:=c.a.nx+1) (by omega) (by omega),wf_i (z:=c.a.mo) (by omega) (by omega),wf_i (z:=c.a.bo) (by omega) (by omega),wf_i (z:=c.a.fr) (by omega) (by omega)⟩,rfl⟩
theorem may_un {v:Ev} (h:EMay v):0≤v.un∧v.un≤2097151:=by
 unfold EMay at h;omega
theorem hap_wf {t:Tm} {c c':Cm} {v:Ev} (h:HapIs t c v c' 0) (hm:EMay v):wf6 c'.a∧c'.a.me=c.a.me:=by
 rcases h with ⟨_,b,q,r⟩ | ⟨_,b,l,e,q,r⟩
 ·rw [r rfl];exact owe_wf q
 ·rcases r with ⟨x,y⟩ | ⟨_,_,y⟩ | ⟨x,y,_,rfl⟩
  ·exact absurd y.symm x
  ·cases y
  ·subst x;subst y;exact tells_wf q (may_un hm).2 (may_un hm).1
theorem getD_in {bk:List Cm} {j:Nat} (h:j<bk.length):bk.getD j cm0∈bk:=getD_mem h
theorem AWf.set {bk:List Cm} {k:Nat} {c:Cm} (h:AWf bk) (hc:wf6 c.a):AWf (bk.set k c):=fun x hx=>by
 rcases List.mem_or_eq_of_mem_set hx with h' | rfl
 ·exact h x h'
 ·exact hc
theorem AWf.snoc {bk:List Cm} {c:Cm} (h:AWf bk) (hc:wf6 c.a):AWf (bk++[c]):=fun x hx=>by
 rcases List.mem_append.1 hx with h' | h'
 ·exact h x h'
 ·rw [List.mem_singleton.1 h'];exact hc
def wrc (V:Value) (t:Tm) (pt:Option Addr) (lt ct B:Nat):Array Value:=#[V,.slice pt lt ct,zI t.ff,zI t.fb,zI t.db,zI t.al,.map (some B)]
structure Kp (base gW B:Nat) (w w':World):Prop where
 os:w'.os=w.os
 tape:w'.tape=w.tape
 output:w'.output=w.output
 size:w.heap.size≤w'.heap.size
 block:∀ k,k<base→k≠gW→k≠B→w'.heap[k]?=w.heap[k]?
theorem Kp.refl (base gW B:Nat) (w:World):Kp base gW B w w:=⟨rfl,rfl,rfl,Nat.le_refl _,fun _ _ _ _=>rfl⟩
theorem Kp.trans {base gW B:Nat} {a b c:World} (h:Kp base gW B a b) (k:Kp base gW B b c):Kp base gW B a c:=⟨k.os.trans h.os,k.tape.trans h.tape,k.output.trans h.output,Nat.le_trans h.size k.size,fun i h1 h2 h3=>(k.block i h1 h2 h3).trans (h.block i h1 h2 h3)⟩
theorem Kp.of {base gW B n:Nat} {a b:World} (h:Below n a b) (hn:base≤n):Kp base gW B a b:=⟨h.os,h.tape,h.output,h.size,fun i h1 _ _=>h.block i (by omega)⟩
theorem Kp.bel {base gW B n:Nat} {a b c:World} (k:Kp base gW B b c) (h:Below n a b) (hn:n≤base) (h1:n≤gW) (h2:n≤B):Below n a c:=⟨k.os.trans h.os,k.tape.trans h.tape,k.output.trans h.output,Nat.le_trans h.size k.size,fun i hi=>(k.block i (by omega) (by omega) (by omega)).trans (h.block i hi)⟩
theorem Kp.keep {base gW B G:Nat} {a b:World} {cs:Array Value} {t:TypeId} (k:Kp base gW B a b) (h:Blk a G cs t) (h0:G<base) (h1:G≠gW) (h2:G≠B):Blk b G cs t:=by
 unfold Blk at *;rw [k.block G h0 h1 h2];exact h
theorem Kp.upd {base gW B g:Nat} {a b:World} {cs:Array Value} {t:TypeId} (hU:Upd a b g cs t) (hg:base≤g∨g=gW):Kp base gW B a b:=by
 have h:=hU.bel 0 a (Nat.zero_le _) (Below.refl _ _);exact ⟨h.os,h.tape,h.output,h.size,fun k h1 h2 _=>hU.oth k (by omega)⟩
theorem Kp.grown {base gW B:Nat} {a b:World} {own:Option Nat} (hg:a.grownBy b own) (hs:base≤a.heap.size) (ho:∀ g,own=some g→base≤g):Kp base gW B a b:=⟨hg.os,hg.tape,hg.output,hg.size,fun k h1 _ _=>hg.block k (by omega) (fun e=>by have:=ho k e.symm;omega)⟩
structure Wr (w0:World) (base gW B:Nat) (t:Tm) (pt:Option Addr) (lt ct:Nat) (V:Value) (xs:List Cu) (bk:List Cm) (w:World):Prop where
 blk:Blk w gW (wrc V t pt lt ct B) 113
 mp:MpI w B (mes bk)
 hold:Holds w base V xs bk
 gw:gW<base
 gb:B<base
 ne:gW≠B
 n0:w0.heap.size≤gW
 n1:w0.heap.size≤B
 sz:base≤w.heap.size
 bel:Below w0.heap.size w0 w
 few:Small bk 120
 wf:AWf bk
theorem Wr.next {w0:World} {base gW B:Nat} {t:Tm} {pt:Option Addr} {lt ct:Nat} {V:Value} {xs:List Cu} {bk:List Cm} {w w':World} (h:Wr w0 base gW B t pt lt ct V xs bk w) (hb:Below w.heap.size w w'):Wr w0 base gW B t pt lt ct V xs bk w':=
 ⟨h.blk.next hb,h.mp.below hb,h.hold.next hb,h.gw,h.gb,h.ne,h.n0,h.n1,Nat.le_trans h.sz hb.size,h.bel.trans (hb.mono h.bel.size),h.few,h.wf⟩
theorem Wr.kp {w0:World} {base gW B:Nat} {t:Tm} {pt:Option Addr} {lt ct:Nat} {V:Value} {xs:List Cu} {bk:List Cm} {w w':World} (h:Wr w0 base gW B t pt lt ct V xs bk w) (hb:Below w.heap.size w w'):Kp base gW B w w':= .of hb h.sz
def WPost (w0:World) (base gW B:Nat) (t:Tm) (pt:Option Addr) (lt ct:Nat) (R:List Cm→Int→Prop) (w:World) (e:Ending) (w':World):Prop:=
 Kp base gW B w w'∧((∃ V xs bk',e = .returned (.tuple #[])∧R bk' 0∧(Small bk' 120→Wr w0 base gW B t pt lt ct V xs bk' w'))∨∃ f bk',f≠0∧e = .panicked (thrown f)∧R bk' f)
theorem WPost.back {w0:World} {base gW B:Nat} {t:Tm} {pt:Option Addr} {lt ct:Nat} {R R':List Cm→Int→Prop} {w1 w:World} {e:Ending} {w':World} (h:WPost w0 base gW B t pt lt ct R w e w') (hk:Kp base gW B w1 w) (hR:∀ b f,R b f→R' b f):WPost w0 base gW B t pt lt ct R' w1 e w':=by
 refine ⟨hk.trans h.1,?_⟩;rcases h.2 with ⟨V,xs,bk',h1,h2,h3⟩ | ⟨f,bk',h1,h2,h3⟩
 ·exact .inl ⟨V,xs,bk',h1,hR _ _ h2,h3⟩
 ·exact .inr ⟨f,bk',h1,h2,hR _ _ h3⟩
theorem rowD_same {w w':World} {a:Option Addr} {n:Nat} {zs:List tar.Du} (h:tar.RowD w a n zs) (he:0<n→∀ x,a=some x→w'.heap[x.block]?=w.heap[x.block]?):tar.RowD w' a n zs:=by
 refine ⟨h.1,?_⟩;rcases h.2 with h0 | ⟨b,off,rfl,hc⟩
 ·exact .inl h0
 ·refine .inr ⟨b,off,rfl,fun i hi=>?_⟩;have h1:=hc i hi;have hb:w'.heap[b]?=w.heap[b]?:=he (by omega) _ rfl;have e:∀ o,w'.cell? ⟨b,o,none⟩=w.cell? ⟨b,o,none⟩:=fun o=>by simp [World.cell?,hb]
  rw [e,e];exact h1
theorem came_same {w w':World} {a:Option Addr} {n cap:Nat} {zs:List tar.Du} (h:tar.Came w a n cap zs) (he:0<n→∀ x,a=some x→w'.heap[x.block]?=w.heap[x.block]?):tar.Came w' a n cap zs:=⟨rowD_same h.row he,h.nil,h.room,h.bytes,h.wf⟩
theorem lo_same {w w':World} {base:Nat} {v:Value} {l:List So} (h:Lo w base v l) (he:∀ g,v.ownBlock=some g→w'.heap[g]?=w.heap[g]?):Lo w' base v l:=by
 refine ⟨h.1,?_⟩;rcases h.2 with hn | ⟨g',cap,cur,hv,hb,hc,rest⟩
 ·exact .inl hn
 ·exact .inr ⟨g',cap,cur,hv,hb,by rw [he g' (by rw [hv];rfl)];exact hc,rest⟩
theorem Has.same {w w':World} {base:Nat} {x:Cu} {c:Cm} (h:Has w base x c) (h1:∀ g,x.sold.ownBlock=some g→w'.heap[g]?=w.heap[g]?) (h2:0<x.dn→∀ p,x.dp=some p→w'.heap[p.block]?=w.heap[p.block]?):Has w' base x c:=⟨h.num,⟨came_same h.ds.came h2,h.ds.new⟩,lo_same h.so h1⟩
theorem Holds.put2 {w w4:World} {base:Nat} {V:Value} {xs:List Cu} {bk:List Cm} {k:Nat} {x':Cu} {c':Cm} (h:Holds w base V xs bk) (hk:k<xs.length)
  (hO:∀ g,g<w.heap.size→V.ownBlock≠some g→(xs.getD k cu0).sold.ownBlock≠some g→w4.heap[g]?=w.heap[g]?) (has:Has w4 base x' c')
  (own:∀ g,x'.sold.ownBlock=some g→(xs.getD k cu0).sold.ownBlock=some g∨w.heap.size≤g) (new:0<x'.dn→∀ p,x'.dp=some p→w.heap.size≤p.block) (self:∀ g,x'.sold.ownBlock=some g→0<x'.dn→∀ p,x'.dp=some p→p.block≠g)
  (hr:Lc w4 base V (xs.set k x')):Holds w4 base V (xs.set k x') (bk.set k c'):=by
 have hkb:k<bk.length:=by rw [← h.len];exact hk
 have lt1:∀ i,i<xs.length→∀ g,(xs.getD i cu0).sold.ownBlock=some g→g<w.heap.size:=fun i hi g hgg=>(World.ownsRow.lt (h.has i hi).so g hgg).2
 have lt2:∀ i,i<xs.length→0<(xs.getD i cu0).dn→∀ p,(xs.getD i cu0).dp=some p→p.block<w.heap.size:=fun i hi hn p hp=>by
  obtain ⟨b,off,e,lb,_⟩:=(h.has i hi).ds.came.row.at hn;rw [hp] at e;rw [Option.some.inj e];exact lb
 have ltV:∀ g,V.ownBlock=some g→g<w.heap.size:=fun g hgg=>(World.ownsRow.lt h.row g hgg).2
 have offx:Off x' V.ownBlock:=⟨fun g hgg q=>by
  rcases own g hgg with e | e
  ·exact (h.off k hk).1 g e q
  ·have:=ltV g q;omega,fun hn p hp q=>by
  have h1:=new hn p hp;have h2:=ltV p.block q.symm;omega⟩
 have apx:∀ i,i<xs.length→i≠k→Apart (xs.getD i cu0) x':=fun i hi hik=>by
  refine ⟨fun g h1 h2=>?_,fun g h1 hn p hp q=>?_,fun g h1 hn p hp q=>?_⟩
  ·rcases own g h2 with e | e
   ·exact (h.apart i k hi hk hik).1 g h1 e
   ·have:=lt1 i hi g h1;omega
  ·have h3:=new hn p hp;have h4:=lt1 i hi g h1;omega
  ·rcases own g h1 with e | e
   ·exact (h.apart i k hi hk hik).2.2 g e hn p hp q
   ·have:=lt2 i hi hn p hp;omega
 refine ⟨hr,by rw [List.length_set,List.length_set,h.len],fun i hi=>?_,fun i hi=>?_,fun i hi=>?_,fun i j hi hj hij=>?_⟩
 all_goals rw [List.length_set] at hi
 ·rw [getD_put xs x' cu0 k i hk,getD_put bk c' cm0 k i hkb];by_cases q:i=k
  ·rw [if_pos q,if_pos q];exact has
  ·rw [if_neg q,if_neg q];have ap:=h.apart i k hi hk q;refine (h.has i hi).same (fun g hg=>hO g (lt1 i hi g hg) (fun e=>(h.off i hi).1 g hg e) (fun e=>ap.1 g hg e)) (fun hn p hp=>hO p.block (lt2 i hi hn p hp) (fun e=>(h.off i hi).2 hn p hp e.symm) (fun e=>ap.2.2 p.block e hn p hp rfl))
 ·rw [getD_put xs x' cu0 k i hk];by_cases q:i=k
  ·rw [if_pos q];exact offx
  ·rw [if_neg q];exact h.off i hi
 ·rw [getD_put xs x' cu0 k i hk];by_cases q:i=k
  ·rw [if_pos q];exact self
  ·rw [if_neg q];exact h.self i hi
 ·rw [List.length_set] at hj;rw [getD_put xs x' cu0 k i hk,getD_put xs x' cu0 k j hk];by_cases q:i=k <;> by_cases q':j=k
  ·omega
  ·rw [if_pos q,if_neg q'];exact (apx j hj q').symm
  ·rw [if_neg q,if_pos q'];exact apx i hi q
  ·rw [if_neg q,if_neg q'];exact h.apart i j hi hj hij
theorem lc_put2 {w W:World} {base g n cap k:Nat} {xs:List Cu} {x':Cu} {cur:Array Value} (h:Lc w base (.slice (some ⟨g,0,none⟩) n cap) xs) (hB:Blk w g cur 54) (hk:k<xs.length) (hW:Blk W g (putAll cur (k*8) x'.cs) 54):Lc W base (.slice (some ⟨g,0,none⟩) n cap) (xs.set k x'):=by
 unfold Lc at *;rw [List.length_set];refine ⟨by rw [cellsC_len,List.length_set],?_⟩;rcases h.2 with ⟨h',_⟩ | ⟨g',cap',cur',hv,hg,hc,hn,hm,hz,ht⟩
 ·cases h'
 ·simp only [Value.slice.injEq,Option.some.injEq,Addr.mk.injEq,and_true] at hv;obtain ⟨rfl,rfl,rfl⟩:=hv
  have e:cur'=cur:=by
   have h1:w.heap[g]?=some (.cells cur 54 (0,0)):=hB;rw [h1] at hc;injection hc with hc
   injection hc with hc
   exact hc.symm
  subst e;refine .inr ⟨g,cap,_,rfl,hg,hW,hn,hm,by rw [putAll_size];exact hz,?_⟩;apply List.ext_getElem?;intro j;have h8:x'.cs.length=8:=rfl;rw [cellsC_get,List.length_set,getD_put xs x' cu0 k (j / 8) hk];by_cases hj:j<xs.length*8
  ·rw [if_pos hj,List.getElem?_take_of_lt hj,Array.getElem?_toList,putAll_get _ _ _ _ (by rw [hz,h8];omega),h8];by_cases h1:k*8≤j∧j<k*8+8
   ·rw [if_pos h1,if_pos (by omega),show j - k*8=j % 8 by omega]
   ·rw [if_neg h1,if_neg (by omega)];have h2:cur'.toList[j]?=(cellsC xs)[j]?:=by rw [← ht,List.getElem?_take_of_lt hj]
    rw [Array.getElem?_toList] at h2;rw [h2,cellsC_get,if_pos hj]
  ·rw [if_neg hj,List.getElem?_eq_none (by rw [List.length_take];omega)]
theorem putAll_more (cs:Array Value):∀ (l:List Value) (o:Nat) (v:Value),(putAll cs o l).setIfInBounds (o+l.length) v=putAll cs o (l++[v])
 | [],o,v=>rfl
 | x :: l,o,v=>by
  have:=putAll_more (cs.setIfInBounds o x) l (o+1) v;rw [List.cons_append,putAll,putAll,← this,List.length_cons,show o+(l.length+1)=o+1+l.length by omega]
theorem at_cust {w:World} {base n cap k:Nat} {a:Option Addr} {xs:List Cu} (h:Lc w base (.slice a n cap) xs) (hk:k<xs.length):∃ g cur,a=some ⟨g,0,none⟩∧base≤g∧Blk w g cur 54∧k*8+8≤cur.size∧∀ j,j<8→cur[k*8+j]?=(xs.getD k cu0).cs[j]?:=by
 have hn:xs.length=n:=by
  obtain ⟨a',c',hv,_⟩:=h.row;injection hv with _ e _
  exact e.symm
 obtain ⟨g,cur,e1,e2,e3,e4,e5⟩:=lc_lies h (by omega);exact ⟨g,cur,e1,e2,e3,by omega,fun j hj=>e5 k j hk hj⟩
end book
namespace acc
open tar (Du du0 Came RowD Ld PairT)
open Go.RowKit
theorem pgrant1 (B0 B1 g:Nat) (x:Ac) (p:Option Addr) (len cap:Nat) (t:Tm) (pt:Option Addr) (lt ct:Nat) (m:Int) (w:World) (hB0:Blk w B0 #[.slice pt lt ct,zI t.ff,zI t.fb,zI t.db,zI t.al] 24) (hB1:Blk w B1 #[zI m] 3) (hw:Blk w g (wcs x bi0 p len cap) 252) (hd:deb.Fresh w (g+1) p len cap x.ds) (ha:AMay x) (ht:Came w pt lt ct t.ts) (hwf:wf4 t) (hfar:Far pt lt g):Calls Tryz.prog 120 #[.pointer (some ⟨g,0,none⟩),.pointer (some ⟨B0,0,none⟩),.pointer (some ⟨B1,0,none⟩)] w fun e w'=>WPost w g (Or0 (GrantIs x t m)) e w':=by
 have HIN:Hid (Calls Tryz.prog 121 #[.pointer (some ⟨g,0,none⟩),.agg #[.slice pt lt ct,zI t.ff,zI t.fb,zI t.db,zI t.al],zI m] w fun e w'=>WPost w g (Or0 (GrantIs x t m)) e w'):=(pgrant g x p len cap t pt lt ct m w hw hd ha ht hwf hfar).mono fun e w' h=>h.w (Nat.le_of_lt hw.lt);have HK0:Hid (Blk w B0 #[.slice pt lt ct,zI t.ff,zI t.fb,zI t.db,zI t.al] 24):=hB0;have HK1:Hid (Blk w B1 #[zI m] 3):=hB1;have qB1:w.cell? ⟨B1,0,none⟩=some (zI m):=hB1.cell 0;clear hw ha hd ht hwf hfar;go_enter Tryz.func120,Tryz.ntmps120;go_wp2_with (first | (refine zqw rfl rfl rfl HK0 zqu24 ?_) | fail)
 refine HIN.o.mono ?_;rintro e w1 hx;have HX:Hid (WPost w g (Or0 (GrantIs x t m)) e w1):=hx;obtain ⟨y,b,q,n,c,f,rfl,_⟩:=hx;clear HIN;go_wp2_with fail;go_ret;exact HX.o
theorem kgrant:KcGrant:=by
 intro w x p len cap t pt lt ct m ha ht hm;unfold Ac.v Ac.cs Tm.v;obtain ⟨W0,HWW,H0d,H0t,H0m,H0r,H0l,H0B,hs0⟩:=sh5 w #[zI x.me,zI x.rv,zI x.nx,zI x.mo,zI x.bo,zI x.fr,.slice p len cap] 51 #[.slice pt lt ct,zI t.ff,zI t.fb,zI t.db,zI t.al] 24 #[zI m] 3 #[zI 0,zI 0,zI 0,zI 0,zI 0,zI 0,zS] 51 #[zI 0,zI 0,zI 0,zI 0,zI 0,zI 0,zI 0] 68;have H0R:Hid (Came W0 p len cap x.ds):=ha.ds.below H0B.o;go_enter Tryz.func77,Tryz.ntmps77;go_upto_region 1 with fail
 rw [HWW.o];clear HWW;have HXt:Hid (∀ W,Below W0.heap.size W0 W→Blk W (w.heap.size+1) #[.slice pt lt ct,zI t.ff,zI t.fb,zI t.db,zI t.al] 24):=fun W hW=>H0t.o.next hW;have HXm:Hid (∀ W,Below W0.heap.size W0 W→Blk W (w.heap.size+1+1) #[zI m] 3):=fun W hW=>H0m.o.next hW;have HTC:Hid (Came w pt lt ct t.ts):=ht.ts;have HBW:Hid (Below w.heap.size w W0):=H0B.o;have hbw:w.heap.size≤W0.heap.size:=H0B.o.size
 have HWK:Hid (Calls Tryz.prog 117 #[.agg #[zI x.me,zI x.rv,zI x.nx,zI x.mo,zI x.bo,zI x.fr,.slice p len cap],.func (.func 120) #[] #[.pointer (some ⟨w.heap.size+1,0,none⟩),.pointer (some ⟨w.heap.size+1+1,0,none⟩)]] W0 fun e w'=>BPost W0 (GrantIs x t m) e w'):=by
  refine pwork 120 #[.pointer (some ⟨w.heap.size+1,0,none⟩),.pointer (some ⟨w.heap.size+1+1,0,none⟩)] (GrantIs x t m) x p len cap W0 H0R.o (fun h=> .inl ⟨.inl ⟨h,rfl⟩,rfl,rfl⟩) (fun _ _=>by kernel_rfl) ?_;intro hm W g p' cap' hB hg hblk hld
  have HFR:deb.Fresh W (g+1) p' len cap' x.ds:=by
   obtain ⟨a0,c0,hv,hfr⟩:=deb.ld_fresh hld hm.1;injection hv with h1 h2 h3
   rw [h1,h2,h3];exact hfr
  have hfar:Far pt lt g:=fun hn y hy=>by have:=came_lt HTC.o hn y hy;omega
  exact pgrant1 _ _ g x p' len cap' t pt lt ct m W (HXt.o W hB) (HXm.o W hB) hblk HFR hm (HTC.o.below (HBW.o.trans (hB.mono hbw))) ht.wf hfar
 clear ha ht HXt HXm
 go_wp2_with (first
  | (refine zqw rfl rfl rfl H0d zqu51 ?_)
  | (refine zqw rfl rfl rfl H0t zqu24 ?_)
  | (refine wp_whole rfl 3 _ rfl _ rfl 3 _ _ H0m.o Tryz.underlying3 rfl (by kernel_rfl) ?_)
  | (refine zqw rfl rfl rfl H0r zqu51 ?_)
  | (refine zqw rfl rfl rfl H0l zqu68 ?_)
  | fail)
 refine HWK.o.mono ?_;rintro e w1 ⟨b,l,pr,lr,cr,fz,rfl,hi,hf,hb1⟩;have H1d:=shN H0d hb1;have H1t:=shN H0t hb1;have H1m:=shN H0m hb1;have H1r:=shN H0r hb1;have H1l:=shN H0l hb1;have H1R:Hid (Came w1 p len cap x.ds):=H0R.o.below hb1;have H1B:=shB H0B hb1;have hsw1:W0.heap.size≤w1.heap.size:=hb1.size;clear hb1 H0d H0t H0m H0r H0l H0R H0B;unfold Ac.v Ac.cs Bi.v;clear HWK;have H2F:Hid (deb.Fresh w1 W0.heap.size pr lr cr b.ds):=hf;have HUPF:Hid (0<lr→∀ y,pr=some y→y.block<w1.heap.size):=came_lt H2F.o.came;have HV:Hid (GrantIs x t m b l fz):=hi;clear hf hi
 go_wp2_with (first
  | (refine zql rfl rfl rfl rfl zqu51 (by simp [Value.oneCell']) H1r rfl ?_)
  | (refine zqw rfl rfl rfl H1d zqu51 ?_)
  | (refine zqw rfl rfl rfl H1t zqu24 ?_)
  | (refine wp_whole rfl 3 _ rfl _ rfl 3 _ _ H1m.o Tryz.underlying3 rfl (by kernel_rfl) ?_)
  | (refine zqw rfl rfl rfl H1r zqu51 ?_)
  | (refine zqw rfl rfl rfl H1l zqu68 ?_)
  | fail)
 intro W4 hU;have H3d:=shK hU H1d (by omega);have H3t:=shK hU H1t (by omega);have H3m:=shK hU H1m (by omega);have H3r:Hid (Blk W4 (w.heap.size+1+1+1) #[zI b.me,zI b.rv,zI b.nx,zI b.mo,zI b.bo,zI b.fr,.slice pr lr cr] 51):=hU.blk;have H3l:=shK hU H1l (by omega);have H3F:Hid (deb.Fresh W4 W0.heap.size pr lr cr b.ds):=fresh_updN H2F.o hU (fun hn y hy=>by have f1:=H2F.o.new hn y hy;have f2:=HUPF.o hn y hy;omega);have H3B:=shV hU H1B (by omega);have hsW4:W4.heap.size=w1.heap.size:=hU.size;clear hU H1d H1t H1m H1r H1l H2F H1B
 go_wp2_with (first
  | (refine zql rfl rfl rfl rfl zqu68 (by simp [Value.oneCell']) H3l rfl ?_)
  | (refine zqw rfl rfl rfl H3d zqu51 ?_)
  | (refine zqw rfl rfl rfl H3t zqu24 ?_)
  | (refine wp_whole rfl 3 _ rfl _ rfl 3 _ _ H3m.o Tryz.underlying3 rfl (by kernel_rfl) ?_)
  | (refine zqw rfl rfl rfl H3r zqu51 ?_)
  | (refine zqw rfl rfl rfl H3l zqu68 ?_)
  | fail)
 intro W5 hU;have H4d:=shK hU H3d (by omega);have H4t:=shK hU H3t (by omega);have H4m:=shK hU H3m (by omega);have H4r:=shK hU H3r (by omega);have H4l:Hid (Blk W5 (w.heap.size+1+1+1+1) #[zI l.id,zI l.te,zI l.de,zI l.fe,zI l.pr,zI l.ch,zI l.un] 68):=hU.blk;have H4F:Hid (deb.Fresh W5 W0.heap.size pr lr cr b.ds):=fresh_updN H3F.o hU (fun hn y hy=>by have f1:=H3F.o.new hn y hy;have f2:=HUPF.o hn y hy;omega);have H4B:=shV hU H3B (by omega);have hsW5:W5.heap.size=W4.heap.size:=hU.size;clear hU H3d H3t H3m H3r H3l H3F H3B;obtain ⟨Rr0,Rr1,Rr2,Rr3,Rr4,Rr5,Rr6⟩:=shc7 H4r;obtain ⟨Rl0,Rl1,Rl2,Rl3,Rl4,Rl5,Rl6⟩:=shc7 H4l;go_wp2_with fail;exact bodyPost_ret (v:= .tuple #[.agg #[zI b.me,zI b.rv,zI b.nx,zI b.mo,zI b.bo,zI b.fr,.slice pr lr cr],.agg #[zI l.id,zI l.te,zI l.de,zI l.fe,zI l.pr,zI l.ch,zI l.un],zI fz]) (by simp [results,Tryz.results77,Rr0.o,Rr1.o,Rr2.o,Rr3.o,Rr4.o,Rr5.o,Rr6.o,Rl0.o,Rl1.o,Rl2.o,Rl3.o,Rl4.o,Rl5.o,Rl6.o,go_sem]) rfl ⟨b,l,pr,lr,cr,fz,rfl,HV.o,H4F.o.low (by omega),H4B.o⟩
theorem prekey (g:Nat) (x:Ac) (p:Option Addr) (len cap:Nat) (w:World) (hw:Blk w g (wcs x bi0 p len cap) 252) (hd:deb.Fresh w (g+1) p len cap x.ds) (ha:AMay x):Calls Tryz.prog 125 #[.pointer (some ⟨g,0,none⟩)] w fun e w'=>DPost w g (Or0 (RekeyIs x)) e w':=by
 have hrv:=ha.2.2.1;have hnx:=ha.2.2.2.1;have HM:Hid (AMay x):=ha;have HI:Hid (Blk w g #[zI x.me,zI x.rv,zI x.nx,zI x.mo,zI x.bo,zI x.fr,.slice p len cap,zI 0,zI 0,zI 0,zI 0,zI 0,zI 0,zI 0] 252):=hw;have HD:Hid (deb.Fresh w (g+1) p len cap x.ds):=hd;have q1:w.cell? ⟨g,1,none⟩=some (zI x.rv):=HI.o.cell 1;clear hw hd ha;by_cases h1:x.rv<15
 ·have d1:(x.rv == 15)=false:=by simp;omega
  have hwr:IntKind.i64.wrap (x.rv+1)=x.rv+1:=by rw [IntKind.wrap_i64];omega
  have H1:Hid (x.rv<15):=h1;go_enter Tryz.func125,Tryz.ntmps125;go_wp2_with (first | (refine wp_let1 rfl 3 _ _ rfl g 1 rfl .i64 (x.rv+1) rfl (by kernel_rfl) #[zI x.me,zI x.rv,zI x.nx,zI x.mo,zI x.bo,zI x.fr,.slice p len cap,zI 0,zI 0,zI 0,zI 0,zI 0,zI 0,zI 0] 252 HI.o (by simp) ?_) | fail)
  intro W1 hU;have HI1:Hid (Blk W1 g #[zI x.me,zI (x.rv+1),zI x.nx,zI x.mo,zI x.bo,zI x.fr,.slice p len cap,zI 0,zI 0,zI 0,zI 0,zI 0,zI 0,zI 0] 252):=hU.blk;have HC1:Hid (Chg w W1 g):= .upd hU;have HD1:Hid (deb.Fresh W1 (g+1) p len cap x.ds):=fresh_chg HD.o (.upd hU);have HNU:Hid (Calls Tryz.prog 161 #[.pointer (some ⟨g,0,none⟩)] W1 fun e w'=>NumPost W1 g ⟨x.me,x.rv+1,x.nx,x.mo,x.bo,x.fr,x.ds⟩ bi0 p len cap e w'):=pnum g ⟨x.me,x.rv+1,x.nx,x.mo,x.bo,x.fr,x.ds⟩ bi0 p len cap W1 HI1.o hnx;clear hU q1 HI HD d1 h1;go_wp2_with fail;refine HNU.o.mono ?_;rintro e wN ⟨hcN,⟨hx,rfl,hiN⟩ | ⟨hx,rfl,hiN⟩⟩
  ·have HV:Hid (Or0 (RekeyIs x) ⟨x.me,x.rv+1,x.nx,x.mo,x.bo,x.fr,x.ds⟩ bi0 20):= .inl ⟨by decide,.inr (.inr (.inl ⟨HM.o,H1.o,hx,rfl,rfl,rfl⟩))⟩;have HDN:=fresh_chg HD1.o hcN;have HCN:=HC1.o.trans hcN;clear HNU hx;go_wp2_with fail;go_ret;exact ⟨⟨x.me,x.rv+1,x.nx,x.mo,x.bo,x.fr,x.ds⟩,bi0,p,len,cap,20,rfl,HV.o,hiN,HDN,HCN⟩
  ·have HV:Hid (Or0 (RekeyIs x) ⟨x.me,x.rv+1,x.nx+1,x.mo,x.bo,x.fr,x.ds⟩ ⟨x.nx,0,0,0,0,0,0⟩ 0):= .inr ⟨rfl,.inr (.inr (.inr ⟨HM.o,H1.o,hx,rfl,rfl,rfl⟩))⟩;have HDN:=fresh_chg HD1.o hcN;have HCN:=HC1.o.trans hcN;clear HNU hx;go_wp2_with fail;go_ret;exact ⟨⟨x.me,x.rv+1,x.nx+1,x.mo,x.bo,x.fr,x.ds⟩,⟨x.nx,0,0,0,0,0,0⟩,p,len,cap,0,rfl,HV.o,hiN,HDN,HCN⟩
 ·have d1:(x.rv == 15)=true:=by simp;omega
  have HV:Hid (Or0 (RekeyIs x) x bi0 24):= .inl ⟨by decide,.inr (.inl ⟨HM.o,h1,rfl,rfl,rfl⟩)⟩;clear h1 hrv hnx;go_enter Tryz.func125,Tryz.ntmps125;go_wp2_with fail;go_ret;exact ⟨x,bi0,p,len,cap,24,rfl,HV.o,HI.o,HD.o,Chg.refl _ _⟩
theorem krekey:KcRekey:=by
 intro w x p len cap ha;unfold Ac.v Ac.cs;obtain ⟨W0,HWW,H0d,H0r,H0l,H0B,hs0⟩:=sh3 w #[zI x.me,zI x.rv,zI x.nx,zI x.mo,zI x.bo,zI x.fr,.slice p len cap] 51 #[zI 0,zI 0,zI 0,zI 0,zI 0,zI 0,zS] 51 #[zI 0,zI 0,zI 0,zI 0,zI 0,zI 0,zI 0] 68;have H0R:Hid (Came W0 p len cap x.ds):=ha.ds.below H0B.o;go_enter Tryz.func79,Tryz.ntmps79;go_upto_region 1 with fail
 rw [HWW.o];clear HWW
 have HWK:Hid (Calls Tryz.prog 117 #[.agg #[zI x.me,zI x.rv,zI x.nx,zI x.mo,zI x.bo,zI x.fr,.slice p len cap],.func (.func 125) #[] #[]] W0 fun e w'=>BPost W0 (RekeyIs x) e w'):=by
  refine pwork 125 #[] (RekeyIs x) x p len cap W0 H0R.o (fun h=> .inl ⟨h,rfl,rfl,rfl⟩) (fun _ _=>by kernel_rfl) ?_;intro hm W g p' cap' hB hg hblk hld
  have HFR:deb.Fresh W (g+1) p' len cap' x.ds:=by
   obtain ⟨a0,c0,hv,hfr⟩:=deb.ld_fresh hld hm.1;injection hv with h1 h2 h3
   rw [h1,h2,h3];exact hfr
  exact (prekey g x p' len cap' W hblk HFR hm).mono fun e w' h=>h.w (Nat.le_of_lt hblk.lt)
 clear ha
 go_wp2_with (first
  | (refine zqw rfl rfl rfl H0d zqu51 ?_)
  | (refine zqw rfl rfl rfl H0r zqu51 ?_)
  | (refine zqw rfl rfl rfl H0l zqu68 ?_)
  | fail)
 refine HWK.o.mono ?_;rintro e w1 ⟨b,l,pr,lr,cr,fz,rfl,hi,hf,hb1⟩;have H1d:=shN H0d hb1;have H1r:=shN H0r hb1;have H1l:=shN H0l hb1;have H1R:Hid (Came w1 p len cap x.ds):=H0R.o.below hb1;have H1B:=shB H0B hb1;have hsw1:W0.heap.size≤w1.heap.size:=hb1.size;clear hb1 H0d H0r H0l H0R H0B;unfold Ac.v Ac.cs Bi.v;clear HWK;have H2F:Hid (deb.Fresh w1 W0.heap.size pr lr cr b.ds):=hf;have HUPF:Hid (0<lr→∀ y,pr=some y→y.block<w1.heap.size):=came_lt H2F.o.came;have HV:Hid (RekeyIs x b l fz):=hi;clear hf hi
 go_wp2_with (first
  | (refine zql rfl rfl rfl rfl zqu51 (by simp [Value.oneCell']) H1r rfl ?_)
  | (refine zqw rfl rfl rfl H1d zqu51 ?_)
  | (refine zqw rfl rfl rfl H1r zqu51 ?_)
  | (refine zqw rfl rfl rfl H1l zqu68 ?_)
  | fail)
 intro W4 hU;have H3d:=shK hU H1d (by omega);have H3r:Hid (Blk W4 (w.heap.size+1) #[zI b.me,zI b.rv,zI b.nx,zI b.mo,zI b.bo,zI b.fr,.slice pr lr cr] 51):=hU.blk;have H3l:=shK hU H1l (by omega);have H3F:Hid (deb.Fresh W4 W0.heap.size pr lr cr b.ds):=fresh_updN H2F.o hU (fun hn y hy=>by have f1:=H2F.o.new hn y hy;have f2:=HUPF.o hn y hy;omega);have H3B:=shV hU H1B (by omega);have hsW4:W4.heap.size=w1.heap.size:=hU.size;clear hU H1d H1r H1l H2F H1B
 go_wp2_with (first
  | (refine zql rfl rfl rfl rfl zqu68 (by simp [Value.oneCell']) H3l rfl ?_)
  | (refine zqw rfl rfl rfl H3d zqu51 ?_)
  | (refine zqw rfl rfl rfl H3r zqu51 ?_)
  | (refine zqw rfl rfl rfl H3l zqu68 ?_)
  | fail)
 intro W5 hU;have H4d:=shK hU H3d (by omega);have H4r:=shK hU H3r (by omega);have H4l:Hid (Blk W5 (w.heap.size+1+1) #[zI l.id,zI l.te,zI l.de,zI l.fe,zI l.pr,zI l.ch,zI l.un] 68):=hU.blk;have H4F:Hid (deb.Fresh W5 W0.heap.size pr lr cr b.ds):=fresh_updN H3F.o hU (fun hn y hy=>by have f1:=H3F.o.new hn y hy;have f2:=HUPF.o hn y hy;omega);have H4B:=shV hU H3B (by omega);have hsW5:W5.heap.size=W4.heap.size:=hU.size;clear hU H3d H3r H3l H3F H3B;obtain ⟨Rr0,Rr1,Rr2,Rr3,Rr4,Rr5,Rr6⟩:=shc7 H4r;obtain ⟨Rl0,Rl1,Rl2,Rl3,Rl4,Rl5,Rl6⟩:=shc7 H4l;go_wp2_with fail;exact bodyPost_ret (v:= .tuple #[.agg #[zI b.me,zI b.rv,zI b.nx,zI b.mo,zI b.bo,zI b.fr,.slice pr lr cr],.agg #[zI l.id,zI l.te,zI l.de,zI l.fe,zI l.pr,zI l.ch,zI l.un],zI fz]) (by simp [results,Tryz.results79,Rr0.o,Rr1.o,Rr2.o,Rr3.o,Rr4.o,Rr5.o,Rr6.o,Rl0.o,Rl1.o,Rl2.o,Rl3.o,Rl4.o,Rl5.o,Rl6.o,go_sem]) rfl ⟨b,l,pr,lr,cr,fz,rfl,HV.o,H4F.o.low (by omega),H4B.o⟩
end acc
end Go.Proofs.YtnpblpbohcegoaaGreatDoor
