import Derived.Test.YtnpblpbohcegoaaGreatDoorVVRry13
import Derived.Test.YtnpblpbohcegoaaGreatDoorVVRry17
import Derived.Test.YtnpblpbohcegoaaGreatDoorVVRry18
set_option linter.unusedVariables false
set_option linter.unusedSimpArgs false
set_option maxHeartbeats 4000000
set_option maxRecDepth 100000
namespace Go.Proofs.YtnpblpbohcegoaaGreatDoor
namespace acc
open tar (Du du0 Came RowD Ld PairT)
open Go.RowKit
theorem rest_bd {a:Ac} {t:Tm} {te m:Int} (h:Ready a t m) (h0:1≤te) (h1:te≤100000000):(0≤paid a t te m∧paid a t te m≤te)∧(0≤fee t te∧fee t te≤100100000)∧rest a t te m=te - paid a t te m - fee t te:=by
 obtain ⟨a1,⟨b1,⟨c1,c2⟩,⟨d1,d2⟩,⟨e1,e2⟩,_⟩,r⟩:=h;have hs:=mays_sum (rolled_may a1 r).1;have h2:=rec_bd (te:=te) (db:=t.db) (by omega) h1 e1 e2;have h3:=rec_bd (te:=te) (db:=t.fb) (by omega) h1 d1 d2;refine ⟨⟨?_,?_⟩,⟨?_,?_⟩,rfl⟩
 ·show 0≤min (te*t.db / 10000) _;omega
 ·show min (te*t.db / 10000) _≤te;omega
 ·show 0≤t.ff+te*t.fb / 10000;omega
 ·show t.ff+te*t.fb / 10000≤_;omega
end acc
namespace vnd
open book (Ev ev0 Cm cm0 So so0 Sees)
open acc (Ac Tm Bi)
open ora (Pr)
open cell (Wr RowU)
open rcp (Rc rc0)
open Go.RowKit
def KvLoad:Prop:=∀ (W:World) (t:Tm) (pt:Option Addr) (lt ct:Nat) (a:Option Addr) (n cap:Nat) (c:List Int),acc.TCame W t pt lt ct→Dk W a n cap c→Calls Tryz.prog 15 #[t.v pt lt ct,.slice a n cap] W fun e w'=>LoadPost W t c e w'
end vnd
namespace book
open Go.RowKit
open acc (Ac Tm Bi APost BPost TFault TRight OpenIs)
theorem lc_upd2 {w W:World} {base g:Nat} {cs:Array Value} {t:TypeId} {v:Value} {l:List Cu} (h:Lc w base v l) (hU:Upd w W g cs t) (hg:g<base):Lc W base v l:=by
 refine ⟨h.1,?_⟩;rcases h.2 with hn | ⟨g',cap,cur,hv,hb,hc,rest⟩
 ·exact .inl hn
 ·exact .inr ⟨g',cap,cur,hv,hb,by rw [hU.oth g' (by omega)];exact hc,rest⟩
theorem Holds.upd {w W:World} {base g:Nat} {cs:Array Value} {t:TypeId} {V:Value} {xs:List Cu} {bk:List Cm} (h:Holds w base V xs bk) (hU:Upd w W g cs t) (hg:g<base):Holds W base V xs bk:=
 ⟨lc_upd2 h.row hU hg,h.len,fun i hi=>⟨(h.has i hi).num,⟨acc_upd (h.has i hi).ds.came hU (fun hn y hy q=>by have:=(h.has i hi).ds.new hn y hy;omega),(h.has i hi).ds.new⟩,lo_upd (h.has i hi).so hU (fun k hk q=>by have:=(World.ownsRow.lt (h.has i hi).so k hk).1;omega)⟩,h.off,h.self,h.apart⟩
theorem blk_kept {w w':World} {own:Option Nat} {g:Nat} {cs:Array Value} {ty:TypeId} (h:Blk w g cs ty) (hg:w.grownBy w' own) (hne:some g≠own):Blk w' g cs ty:=by
 show w'.heap[g]?=_;rw [hg.block g h.lt hne];exact h
def BookPost (w:World) (t:Tm) (l:List Ev) (e:Ending) (w':World):Prop:=∃ p m cap xs bk at_ f,e = .returned (.tuple #[.agg #[.slice p m cap],zI at_,zI f])∧BookIs t l bk at_ f∧Sees w' p m xs bk∧m≤120∧Below w.heap.size w w'
theorem getD_mem {bk:List Cm} {j:Nat} (h:j<bk.length):bk.getD j cm0∈bk:=by
 have e:bk.getD j cm0=bk[j]:=by simp [List.getD,List.getElem?_eq_getElem h]
 rw [e];exact List.getElem_mem _
theorem sees_nil (w:World):Sees w none 0 [] []:=⟨⟨rfl,.inl rfl⟩,rfl,(fun i hi=>by cases hi),(fun i hi=>by cases hi),(fun i hi=>by cases hi)⟩
theorem states_small {t:acc.Tm} {l:List Ev} {k:Nat} {st:Nat→List Cm} (h0:st 0=[]) (h:∀ i,i<k→StepIs t (st i) (l.getD i ev0) (st (i+1)) 0):∀ i,i≤k→Small (st i) i
 | 0,_=>by rw [h0];exact Small.zero
 | i+1,hk=>step_small (h i (by omega)) (states_small h0 h i (by omega))
theorem book_small {t:acc.Tm} {l:List Ev} {bk:List Cm} {at_ f:Int} (h:BookIs t l bk at_ f):∀ c∈bk,c.so.length≤1000000:=by
 rcases h with ⟨_,_,rfl,_⟩ | ⟨_,_,rfl,_⟩ | ⟨_,q,k,st,s0,s1,s2⟩
 ·intro c hc;cases hc
 ·intro c hc;cases hc
 ·rcases s2 with ⟨e,rfl,_⟩ | ⟨_,_,_,rfl,_⟩
  ·intro c hc;have:=((states_small s0 s1 k (Nat.le_refl _)).2 c hc).1;omega
  ·intro c hc;cases hc
end book
namespace vnd
open disk (RepIs repD lenAt itD)
open book (Ev ev0 evOf ECame)
open Go.RowKit
theorem it_in (c:List Int) (k:Nat):∀ z∈(disk.itD c k).1,∀ x∈z,x∈c:=by
 induction k with
 | zero=>intro z hz;simp [disk.itD] at hz
 | succ k ih=>
  intro z hz x hx;by_cases h:0<disk.lenAt c (disk.itD c k).2
  ·rw [disk.it_live h] at hz;rcases List.mem_append.1 hz with hz | hz
   ·exact ih z hz x hx
   ·rw [List.mem_singleton.1 hz] at hx;exact List.mem_of_mem_drop (List.mem_of_mem_take hx)
  ·have e:=disk.it_dead h 1;rw [e] at hz;exact ih z hz x hx
theorem rep_in {c:List Int} {o:List (List Int)} {x f:Int} (h:RepIs c o x f):∀ z∈o,∀ y∈z,y∈c:=by
 rcases h with ⟨_,rfl,_⟩ | ⟨_,_,rfl,_⟩ | ⟨_,_,rfl,_⟩
 ·intro z hz;cases hz
 ·intro z hz;cases hz
 ·exact it_in c _
theorem rep_len {c:List Int} {o:List (List Int)} {x f:Int} (h:RepIs c o x f):o.length≤2048:=(disk.rep_few h).1
theorem getD_inR {o:List (List Int)} {j:Nat} (h:j<o.length):o.getD j []∈o:=by
 have e:o.getD j []=o[j]:=by simp [List.getD,List.getElem?_eq_getElem h]
 rw [e];exact List.getElem_mem _
theorem take_mapE (o:List (List Int)) (k:Nat) (h:k<o.length):(o.take k).map evOf++[evOf (o.getD k [])]=(o.take (k+1)).map evOf:=by
 have e:o.getD k []=o[k]:=by simp [List.getD,List.getElem?_eq_getElem h]
 rw [List.take_succ_eq_append_getElem h,List.map_append,e];rfl
def KeptPost (w:World) (c:List Int) (e:Ending) (w':World):Prop:=∃ p m cp l f,e = .returned (.tuple #[.slice p m cp,zI f])∧KeptIs c l f∧ECame w' p m cp l∧m≤2048∧Below w.heap.size w w'
theorem ecame_nil (w:World):ECame w none 0 0 []:=⟨⟨rfl,.inl rfl⟩,fun _=>rfl,Nat.le_refl _,by omega,fun v hv=>by cases hv⟩
end vnd
namespace book
open Go.RowKit
open acc (Ac Tm Bi APost BPost TFault TRight OpenIs OweIs SellIs GrantIs RekeyIs wf6 ACame TCame)
theorem wf_i {z:Int} (h0:-1≤z) (h1:z≤4000000000):(Lit.int .i64 z).wf=true:=by
 have h1:IntKind.i64.min≤z:=by
  have e:IntKind.i64.min=-9223372036854775808:=by decide
  omega
 have h2:z≤IntKind.i64.max:=by
  have e:IntKind.i64.max=9223372036854775807:=by decide
  omega
 show (decide (IntKind.i64.min≤z) && decide (z≤IntKind.i64.max))=true;rw [Bool.and_eq_true];exact ⟨decide_eq_true h1,decide_eq_true h2⟩
theorem may_wf {a:Ac} (h:acc.AMay a):wf6 a:=by
 obtain ⟨_,⟨a1,a2⟩,⟨b1,b2⟩,⟨c1,c2⟩,⟨d1,d2⟩,⟨e1,e2⟩,f1,f2⟩:=h;exact ⟨wf_i (by omega) (by omega),wf_i (by omega) (by omega),wf_i (by omega) (by omega),wf_i (by omega) (by omega),wf_i (by omega) (by omega),wf_i (by omega) (by omega)⟩
def AWf (bk:List Cm):Prop:=∀ c∈bk,wf6 c.a
theorem owe_wf {a b:Ac} {d:tar.Du} (h:OweIs a d b 0):wf6 b∧b.me=a.me:=by
 rcases h with ⟨_,_,e⟩ | ⟨_,_,_,e⟩ | ⟨_,_,_,_,e⟩ | ⟨p,_,_,rfl,_⟩
 ·cases e
 ·cases e
 ·cases e
 ·have h:=may_wf p;exact ⟨⟨h.1,h.2.1,h.2.2.1,h.2.2.2.1,h.2.2.2.2.1,h.2.2.2.2.2⟩,rfl⟩
theorem tells_wf {t:Tm} {c:Cm} {v:Ev} {b:Ac} {l:Bi} (h:Tells t c v b l 0) (hl:l.un≤2097151) (hl0:0≤l.un):wf6 b∧b.me=c.a.me:=by
 rcases h with ⟨_,h⟩ | ⟨_,h⟩ | ⟨_,h⟩
 ·rcases h with ⟨p,_,_⟩ | ⟨_,_,e,_⟩ | ⟨_,_,_,e,_⟩ | ⟨hr,_,_,_,u,_,rfl,rfl⟩
  ·exact absurd rfl (fun (q:(0:Int)=0)=>by
    rcases p with ⟨_,p⟩ | ⟨_,p,q'⟩ | ⟨_,_,_,p⟩
    ·cases p
    ·exact p (q'.ok.1 rfl)
    ·exact p.ne rfl)
  ·cases e
  ·cases e
  ·obtain ⟨_,⟨a1,a2⟩,⟨b1,b2⟩,⟨c1,c2⟩,⟨d1,d2⟩,⟨e1,e2⟩,f1,f2⟩:=hr.1;obtain ⟨_,_,_,_,⟨m1,m2⟩,⟨k1,k2⟩,_⟩:=acc.rolled_may hr.1 hr.2.2;have hm:=hr.2.2.1;have hu:u≤2097151:=hl;have hu0:0≤u:=hl0;refine ⟨⟨wf_i (z:=c.a.me) (by omega) (by omega),wf_i (z:=c.a.rv) (by omega) (by omega),wf_i (z:=c.a.nx+1) (by omega) (by omega),wf_i (z:=v.mo) (by omega) (by omega),wf_i (z:=(acc.rolled c.a v.mo).bo+u) (by omega) (by omega),wf_i (z:=c.a.fr) (by omega) (by omega)⟩,rfl⟩
 ·rcases h with ⟨p,_,_⟩ | ⟨_,_,e,_⟩ | ⟨_,_,_,e,_⟩ | ⟨_,_,_,_,e,_⟩ | ⟨hr,_,_,_,_,rfl,_⟩
  ·exact absurd rfl (fun (q:(0:Int)=0)=>by
    rcases p with ⟨_,p⟩ | ⟨_,p,q'⟩ | ⟨_,_,_,p⟩
    ·cases p
    ·exact p (q'.ok.1 rfl)
    ·exact p.ne rfl)
  ·cases e
  ·cases e
  ·cases e
  ·obtain ⟨_,⟨a1,a2⟩,⟨b1,b2⟩,⟨c1,c2⟩,⟨d1,d2⟩,⟨e1,e2⟩,f1,f2⟩:=hr.1;obtain ⟨_,_,_,_,⟨m1,m2⟩,⟨k1,k2⟩,_⟩:=acc.rolled_may hr.1 hr.2.2;have hm:=hr.2.2.1;exact ⟨⟨wf_i (z:=c.a.me) (by omega) (by omega),wf_i (z:=c.a.rv) (by omega) (by omega),wf_i (z:=c.a.nx+1) (by omega) (by omega),wf_i (z:=v.mo) (by omega) (by omega),wf_i (z:=(acc.rolled c.a v.mo).bo) (by omega) (by omega),wf_i (z:=v.mo) (by omega) (by omega)⟩,rfl⟩
 ·rcases h with ⟨_,_,_,e⟩ | ⟨_,_,_,_,e⟩ | ⟨_,_,_,_,_,e⟩ | ⟨hr,_,_,rfl,_,_⟩
  ·cases e
  ·cases e
  ·cases e
  ·obtain ⟨_,⟨a1,a2⟩,⟨b1,b2⟩,⟨c1,c2⟩,⟨d1,d2⟩,⟨e1,e2⟩,f1,f2⟩:=hr;exact ⟨⟨wf_i (z:=c.a.me) (by omega) (by omega),wf_i (z:=c.a.rv+1) (by omega) (by omega),wf_i (z:=c.a.nx+1) (by omega) (by omega),wf_i (z:=c.a.mo) (by omega) (by omega),wf_i (z:=c.a.bo) (by omega) (by omega),wf_i (z:=c.a.fr) (by omega) (by omega)⟩,rfl⟩
theorem may_un {v:Ev} (h:EMay v):0≤v.un∧v.un≤2097151:=by
 unfold EMay at h;omega
theorem hap_wf {t:Tm} {c c':Cm} {v:Ev} (h:HapIs t c v c' 0) (hm:EMay v):wf6 c'.a∧c'.a.me=c.a.me:=by
 rcases h with ⟨_,b,q,r⟩ | ⟨_,b,l,e,q,r⟩
 ·rw [r rfl];exact owe_wf q
 ·rcases r with ⟨x,y⟩ | ⟨_,_,y⟩ | ⟨x,y,_,rfl⟩
  ·exact absurd y.symm x
  ·cases y
  ·subst x;subst y;exact tells_wf q (may_un hm).2 (may_un hm).1
theorem getD_in {bk:List Cm} {j:Nat} (h:j<bk.length):bk.getD j cm0∈bk:=getD_mem h
theorem AWf.set {bk:List Cm} {k:Nat} {c:Cm} (h:AWf bk) (hc:wf6 c.a):AWf (bk.set k c):=fun x hx=>by
 rcases List.mem_or_eq_of_mem_set hx with h' | rfl
 ·exact h x h'
 ·exact hc
theorem AWf.snoc {bk:List Cm} {c:Cm} (h:AWf bk) (hc:wf6 c.a):AWf (bk++[c]):=fun x hx=>by
 rcases List.mem_append.1 hx with h' | h'
 ·exact h x h'
 ·rw [List.mem_singleton.1 h'];exact hc
def wrc (V:Value) (t:Tm) (pt:Option Addr) (lt ct B:Nat):Array Value:=#[V,.slice pt lt ct,zI t.ff,zI t.fb,zI t.db,zI t.al,.map (some B)]
structure Kp (base gW B:Nat) (w w':World):Prop where
 os:w'.os=w.os
 tape:w'.tape=w.tape
 output:w'.output=w.output
 size:w.heap.size≤w'.heap.size
 block:∀ k,k<base→k≠gW→k≠B→w'.heap[k]?=w.heap[k]?
theorem Kp.refl (base gW B:Nat) (w:World):Kp base gW B w w:=⟨rfl,rfl,rfl,Nat.le_refl _,fun _ _ _ _=>rfl⟩
theorem Kp.trans {base gW B:Nat} {a b c:World} (h:Kp base gW B a b) (k:Kp base gW B b c):Kp base gW B a c:=⟨k.os.trans h.os,k.tape.trans h.tape,k.output.trans h.output,Nat.le_trans h.size k.size,fun i h1 h2 h3=>(k.block i h1 h2 h3).trans (h.block i h1 h2 h3)⟩
theorem Kp.of {base gW B n:Nat} {a b:World} (h:Below n a b) (hn:base≤n):Kp base gW B a b:=⟨h.os,h.tape,h.output,h.size,fun i h1 _ _=>h.block i (by omega)⟩
theorem Kp.bel {base gW B n:Nat} {a b c:World} (k:Kp base gW B b c) (h:Below n a b) (hn:n≤base) (h1:n≤gW) (h2:n≤B):Below n a c:=⟨k.os.trans h.os,k.tape.trans h.tape,k.output.trans h.output,Nat.le_trans h.size k.size,fun i hi=>(k.block i (by omega) (by omega) (by omega)).trans (h.block i hi)⟩
theorem Kp.keep {base gW B G:Nat} {a b:World} {cs:Array Value} {t:TypeId} (k:Kp base gW B a b) (h:Blk a G cs t) (h0:G<base) (h1:G≠gW) (h2:G≠B):Blk b G cs t:=by
 unfold Blk at *;rw [k.block G h0 h1 h2];exact h
theorem Kp.upd {base gW B g:Nat} {a b:World} {cs:Array Value} {t:TypeId} (hU:Upd a b g cs t) (hg:base≤g∨g=gW):Kp base gW B a b:=by
 have h:=hU.bel 0 a (Nat.zero_le _) (Below.refl _ _);exact ⟨h.os,h.tape,h.output,h.size,fun k h1 h2 _=>hU.oth k (by omega)⟩
theorem Kp.grown {base gW B:Nat} {a b:World} {own:Option Nat} (hg:a.grownBy b own) (hs:base≤a.heap.size) (ho:∀ g,own=some g→base≤g):Kp base gW B a b:=⟨hg.os,hg.tape,hg.output,hg.size,fun k h1 _ _=>hg.block k (by omega) (fun e=>by have:=ho k e.symm;omega)⟩
structure Wr (w0:World) (base gW B:Nat) (t:Tm) (pt:Option Addr) (lt ct:Nat) (V:Value) (xs:List Cu) (bk:List Cm) (w:World):Prop where
 blk:Blk w gW (wrc V t pt lt ct B) 113
 mp:MpI w B (mes bk)
 hold:Holds w base V xs bk
 gw:gW<base
 gb:B<base
 ne:gW≠B
 n0:w0.heap.size≤gW
 n1:w0.heap.size≤B
 sz:base≤w.heap.size
 bel:Below w0.heap.size w0 w
 few:Small bk 120
 wf:AWf bk
theorem Wr.next {w0:World} {base gW B:Nat} {t:Tm} {pt:Option Addr} {lt ct:Nat} {V:Value} {xs:List Cu} {bk:List Cm} {w w':World} (h:Wr w0 base gW B t pt lt ct V xs bk w) (hb:Below w.heap.size w w'):Wr w0 base gW B t pt lt ct V xs bk w':=
 ⟨h.blk.next hb,h.mp.below hb,h.hold.next hb,h.gw,h.gb,h.ne,h.n0,h.n1,Nat.le_trans h.sz hb.size,h.bel.trans (hb.mono h.bel.size),h.few,h.wf⟩
theorem Wr.kp {w0:World} {base gW B:Nat} {t:Tm} {pt:Option Addr} {lt ct:Nat} {V:Value} {xs:List Cu} {bk:List Cm} {w w':World} (h:Wr w0 base gW B t pt lt ct V xs bk w) (hb:Below w.heap.size w w'):Kp base gW B w w':= .of hb h.sz
def WPost (w0:World) (base gW B:Nat) (t:Tm) (pt:Option Addr) (lt ct:Nat) (R:List Cm→Int→Prop) (w:World) (e:Ending) (w':World):Prop:=
 Kp base gW B w w'∧((∃ V xs bk',e = .returned (.tuple #[])∧R bk' 0∧(Small bk' 120→Wr w0 base gW B t pt lt ct V xs bk' w'))∨∃ f bk',f≠0∧e = .panicked (thrown f)∧R bk' f)
theorem WPost.back {w0:World} {base gW B:Nat} {t:Tm} {pt:Option Addr} {lt ct:Nat} {R R':List Cm→Int→Prop} {w1 w:World} {e:Ending} {w':World} (h:WPost w0 base gW B t pt lt ct R w e w') (hk:Kp base gW B w1 w) (hR:∀ b f,R b f→R' b f):WPost w0 base gW B t pt lt ct R' w1 e w':=by
 refine ⟨hk.trans h.1,?_⟩;rcases h.2 with ⟨V,xs,bk',h1,h2,h3⟩ | ⟨f,bk',h1,h2,h3⟩
 ·exact .inl ⟨V,xs,bk',h1,hR _ _ h2,h3⟩
 ·exact .inr ⟨f,bk',h1,h2,hR _ _ h3⟩
theorem rowD_same {w w':World} {a:Option Addr} {n:Nat} {zs:List tar.Du} (h:tar.RowD w a n zs) (he:0<n→∀ x,a=some x→w'.heap[x.block]?=w.heap[x.block]?):tar.RowD w' a n zs:=by
 refine ⟨h.1,?_⟩;rcases h.2 with h0 | ⟨b,off,rfl,hc⟩
 ·exact .inl h0
 ·refine .inr ⟨b,off,rfl,fun i hi=>?_⟩;have h1:=hc i hi;have hb:w'.heap[b]?=w.heap[b]?:=he (by omega) _ rfl;have e:∀ o,w'.cell? ⟨b,o,none⟩=w.cell? ⟨b,o,none⟩:=fun o=>by simp [World.cell?,hb]
  rw [e,e];exact h1
theorem came_same {w w':World} {a:Option Addr} {n cap:Nat} {zs:List tar.Du} (h:tar.Came w a n cap zs) (he:0<n→∀ x,a=some x→w'.heap[x.block]?=w.heap[x.block]?):tar.Came w' a n cap zs:=⟨rowD_same h.row he,h.nil,h.room,h.bytes,h.wf⟩
theorem lo_same {w w':World} {base:Nat} {v:Value} {l:List So} (h:Lo w base v l) (he:∀ g,v.ownBlock=some g→w'.heap[g]?=w.heap[g]?):Lo w' base v l:=by
 refine ⟨h.1,?_⟩;rcases h.2 with hn | ⟨g',cap,cur,hv,hb,hc,rest⟩
 ·exact .inl hn
 ·exact .inr ⟨g',cap,cur,hv,hb,by rw [he g' (by rw [hv];rfl)];exact hc,rest⟩
theorem Has.same {w w':World} {base:Nat} {x:Cu} {c:Cm} (h:Has w base x c) (h1:∀ g,x.sold.ownBlock=some g→w'.heap[g]?=w.heap[g]?) (h2:0<x.dn→∀ p,x.dp=some p→w'.heap[p.block]?=w.heap[p.block]?):Has w' base x c:=⟨h.num,⟨came_same h.ds.came h2,h.ds.new⟩,lo_same h.so h1⟩
theorem Holds.put2 {w w4:World} {base:Nat} {V:Value} {xs:List Cu} {bk:List Cm} {k:Nat} {x':Cu} {c':Cm} (h:Holds w base V xs bk) (hk:k<xs.length)
  (hO:∀ g,g<w.heap.size→V.ownBlock≠some g→(xs.getD k cu0).sold.ownBlock≠some g→w4.heap[g]?=w.heap[g]?) (has:Has w4 base x' c')
  (own:∀ g,x'.sold.ownBlock=some g→(xs.getD k cu0).sold.ownBlock=some g∨w.heap.size≤g) (new:0<x'.dn→∀ p,x'.dp=some p→w.heap.size≤p.block) (self:∀ g,x'.sold.ownBlock=some g→0<x'.dn→∀ p,x'.dp=some p→p.block≠g)
  (hr:Lc w4 base V (xs.set k x')):Holds w4 base V (xs.set k x') (bk.set k c'):=by
 have hkb:k<bk.length:=by rw [← h.len];exact hk
 have lt1:∀ i,i<xs.length→∀ g,(xs.getD i cu0).sold.ownBlock=some g→g<w.heap.size:=fun i hi g hgg=>(World.ownsRow.lt (h.has i hi).so g hgg).2
 have lt2:∀ i,i<xs.length→0<(xs.getD i cu0).dn→∀ p,(xs.getD i cu0).dp=some p→p.block<w.heap.size:=fun i hi hn p hp=>by
  obtain ⟨b,off,e,lb,_⟩:=(h.has i hi).ds.came.row.at hn;rw [hp] at e;rw [Option.some.inj e];exact lb
 have ltV:∀ g,V.ownBlock=some g→g<w.heap.size:=fun g hgg=>(World.ownsRow.lt h.row g hgg).2
 have offx:Off x' V.ownBlock:=⟨fun g hgg q=>by
  rcases own g hgg with e | e
  ·exact (h.off k hk).1 g e q
  ·have:=ltV g q;omega,fun hn p hp q=>by
  have h1:=new hn p hp;have h2:=ltV p.block q.symm
  omega⟩
 have apx:∀ i,i<xs.length→i≠k→Apart (xs.getD i cu0) x':=fun i hi hik=>by
  refine ⟨fun g h1 h2=>?_,fun g h1 hn p hp q=>?_,fun g h1 hn p hp q=>?_⟩
  ·rcases own g h2 with e | e
   ·exact (h.apart i k hi hk hik).1 g h1 e
   ·have:=lt1 i hi g h1;omega
  ·have h3:=new hn p hp;have h4:=lt1 i hi g h1;omega
  ·rcases own g h1 with e | e
   ·exact (h.apart i k hi hk hik).2.2 g e hn p hp q
   ·have:=lt2 i hi hn p hp;omega
 refine ⟨hr,by rw [List.length_set,List.length_set,h.len],fun i hi=>?_,fun i hi=>?_,fun i hi=>?_,fun i j hi hj hij=>?_⟩
 all_goals rw [List.length_set] at hi
 ·rw [getD_put xs x' cu0 k i hk,getD_put bk c' cm0 k i hkb];by_cases q:i=k
  ·rw [if_pos q,if_pos q];exact has
  ·rw [if_neg q,if_neg q];have ap:=h.apart i k hi hk q;refine (h.has i hi).same (fun g hg=>hO g (lt1 i hi g hg) (fun e=>(h.off i hi).1 g hg e) (fun e=>ap.1 g hg e)) (fun hn p hp=>hO p.block (lt2 i hi hn p hp) (fun e=>(h.off i hi).2 hn p hp e.symm) (fun e=>ap.2.2 p.block e hn p hp rfl))
 ·rw [getD_put xs x' cu0 k i hk];by_cases q:i=k
  ·rw [if_pos q];exact offx
  ·rw [if_neg q];exact h.off i hi
 ·rw [getD_put xs x' cu0 k i hk];by_cases q:i=k
  ·rw [if_pos q];exact self
  ·rw [if_neg q];exact h.self i hi
 ·rw [List.length_set] at hj;rw [getD_put xs x' cu0 k i hk,getD_put xs x' cu0 k j hk];by_cases q:i=k <;> by_cases q':j=k
  ·omega
  ·rw [if_pos q,if_neg q'];exact (apx j hj q').symm
  ·rw [if_neg q,if_pos q'];exact apx i hi q
  ·rw [if_neg q,if_neg q'];exact h.apart i j hi hj hij
theorem lc_put2 {w W:World} {base g n cap k:Nat} {xs:List Cu} {x':Cu} {cur:Array Value} (h:Lc w base (.slice (some ⟨g,0,none⟩) n cap) xs) (hB:Blk w g cur 54) (hk:k<xs.length) (hW:Blk W g (putAll cur (k*8) x'.cs) 54):Lc W base (.slice (some ⟨g,0,none⟩) n cap) (xs.set k x'):=by
 unfold Lc at *;rw [List.length_set];refine ⟨by rw [cellsC_len,List.length_set],?_⟩;rcases h.2 with ⟨h',_⟩ | ⟨g',cap',cur',hv,hg,hc,hn,hm,hz,ht⟩
 ·cases h'
 ·simp only [Value.slice.injEq,Option.some.injEq,Addr.mk.injEq,and_true] at hv;obtain ⟨rfl,rfl,rfl⟩:=hv
  have e:cur'=cur:=by
   have h1:w.heap[g]?=some (.cells cur 54 (0,0)):=hB;rw [h1] at hc;injection hc with hc
   injection hc with hc
   exact hc.symm
  subst e;refine .inr ⟨g,cap,_,rfl,hg,hW,hn,hm,by rw [putAll_size];exact hz,?_⟩;apply List.ext_getElem?;intro j;have h8:x'.cs.length=8:=rfl;rw [cellsC_get,List.length_set,getD_put xs x' cu0 k (j / 8) hk];by_cases hj:j<xs.length*8
  ·rw [if_pos hj,List.getElem?_take_of_lt hj,Array.getElem?_toList,putAll_get _ _ _ _ (by rw [hz,h8];omega),h8];by_cases h1:k*8≤j∧j<k*8+8
   ·rw [if_pos h1,if_pos (by omega),show j - k*8=j % 8 by omega]
   ·rw [if_neg h1,if_neg (by omega)];have h2:cur'.toList[j]?=(cellsC xs)[j]?:=by rw [← ht,List.getElem?_take_of_lt hj]
    rw [Array.getElem?_toList] at h2;rw [h2,cellsC_get,if_pos hj]
  ·rw [if_neg hj,List.getElem?_eq_none (by rw [List.length_take];omega)]
theorem putAll_more (cs:Array Value):∀ (l:List Value) (o:Nat) (v:Value),(putAll cs o l).setIfInBounds (o+l.length) v=putAll cs o (l++[v])
 | [],o,v=>rfl
 | x :: l,o,v=>by
  have:=putAll_more (cs.setIfInBounds o x) l (o+1) v;rw [List.cons_append,putAll,putAll,← this,List.length_cons,show o+(l.length+1)=o+1+l.length by omega]
theorem at_cust {w:World} {base n cap k:Nat} {a:Option Addr} {xs:List Cu} (h:Lc w base (.slice a n cap) xs) (hk:k<xs.length):∃ g cur,a=some ⟨g,0,none⟩∧base≤g∧Blk w g cur 54∧k*8+8≤cur.size∧∀ j,j<8→cur[k*8+j]?=(xs.getD k cu0).cs[j]?:=by
 have hn:xs.length=n:=by
  obtain ⟨a',c',hv,_⟩:=h.row;injection hv with _ e _
  exact e.symm
 obtain ⟨g,cur,e1,e2,e3,e4,e5⟩:=lc_lies h (by omega);exact ⟨g,cur,e1,e2,e3,by omega,fun j hj=>e5 k j hk hj⟩
end book
namespace acc
open tar (Du)
open Go.RowKit
def KcSell:Prop:=∀ (W:World) (x:Ac) (p:Option Addr) (len cap:Nat) (t:Tm) (pt:Option Addr) (lt ct:Nat) (te m:Int),ACame W x p len cap→TCame W t pt lt ct→(Lit.int .i64 te).wf=true→(Lit.int .i64 m).wf=true→Calls Tryz.prog 81 #[x.v p len cap,t.v pt lt ct,zI te,zI m] W fun e w'=>BPost W (SellIs x t te m) e w'
def KcOpen:Prop:=∀ (W:World) (m:Int),(Lit.int .i64 m).wf=true→Calls Tryz.prog 115 #[zI m] W fun e w'=>APost W (OpenIs m) e w'
open tar (du0 Came RowD Ld PairT)
theorem open_may {m:Int} (h:0≤m∧m≤49):AMay ⟨m,0,1,0,0,-1,[]⟩:=by
 unfold AMay deb.Mays deb.DFits;simp;omega
theorem kopen:KcOpen:=by
 intro w m hm;have HPM:Hid (∀ W,Calls Tryz.prog 159 #[.agg #[zI m,zI 0,zI 1,zI 0,zI 0,zI (-1),zS]] W fun e w'=>MayPost W ⟨m,0,1,0,0,-1,[]⟩ e w'):=fun W=>pmay ⟨m,0,1,0,0,-1,[]⟩ none 0 0 W (deb.came_nil W);clear hm;obtain ⟨W0,HWW,H0r,H0n,H0B,-⟩:=sh2 w #[zI 0,zI 0,zI 0,zI 0,zI 0,zI 0,zS] 51 #[zI m,zI 0,zI 1,zI 0,zI 0,zI (-1),zS] 51;go_enter Tryz.func115,Tryz.ntmps115;go_upto_region 2 with fail
 rw [HWW.o];clear HWW
 go_wp2_with (first
  | (refine zqw rfl rfl rfl H0r zqu51 ?_)
  | (refine zqw rfl rfl rfl H0n zqu51 ?_)
  | fail)
 refine (HPM.o _).mono ?_;rintro e w1 ⟨r,rfl,hr,hb1⟩;have H1r:=shN H0r hb1;have H1n:=shN H0n hb1;have H1B:=shB H0B hb1;have hsw1:W0.heap.size≤w1.heap.size:=hb1.size;clear hb1 H0r H0n H0B;clear HPM;cases r with
 | false=>
  have HV:Hid (OpenIs m ac0 2):= .inr ⟨fun hh=>Bool.noConfusion (hr.2 (open_may hh)),rfl,rfl⟩;clear hr
  go_wp2_with (first
   | (refine zql rfl rfl rfl rfl zqu51 (by simp [Value.oneCell']) H1r rfl ?_)
   | (refine zqw rfl rfl rfl H1r zqu51 ?_)
   | (refine zqw rfl rfl rfl H1n zqu51 ?_)
   | fail)
  intro w1a hU;have H2r:Hid (Blk w1a (w.heap.size) #[zI 0,zI 0,zI 0,zI 0,zI 0,zI 0,zS] 51):=hU.blk;have H2n:=shK hU H1n (by omega);have H2B:=shV hU H1B (by omega);have hsw1a:w1a.heap.size=w1.heap.size:=hU.size;clear hU H1r H1n H1B;have Rr0:Hid (w1a.cell? ⟨w.heap.size,0,none⟩=some (zI 0)):=H2r.o.cell 0;have Rr1:Hid (w1a.cell? ⟨w.heap.size,1,none⟩=some (zI 0)):=H2r.o.cell 1;have Rr2:Hid (w1a.cell? ⟨w.heap.size,2,none⟩=some (zI 0)):=H2r.o.cell 2;have Rr3:Hid (w1a.cell? ⟨w.heap.size,3,none⟩=some (zI 0)):=H2r.o.cell 3;have Rr4:Hid (w1a.cell? ⟨w.heap.size,4,none⟩=some (zI 0)):=H2r.o.cell 4;have Rr5:Hid (w1a.cell? ⟨w.heap.size,5,none⟩=some (zI 0)):=H2r.o.cell 5;have Rr6:Hid (w1a.cell? ⟨w.heap.size,6,none⟩=some (zS)):=H2r.o.cell 6;go_wp2_with fail;exact bodyPost_ret (v:= .tuple #[.agg #[zI 0,zI 0,zI 0,zI 0,zI 0,zI 0,zS],zI 2]) (by simp [results,Tryz.results115,Rr0.o,Rr1.o,Rr2.o,Rr3.o,Rr4.o,Rr5.o,Rr6.o,go_sem]) rfl ⟨ac0,none,0,0,_,rfl,HV.o,deb.fresh_nil _ _,H2B.o⟩
 | true=>
  have HV:Hid (OpenIs m ⟨m,0,1,0,0,-1,[]⟩ 0):= .inl ⟨(hr.1 rfl).2.1,rfl,rfl⟩;clear hr
  go_wp2_with (first
   | (refine zql rfl rfl rfl rfl zqu51 (by simp [Value.oneCell']) H1r rfl ?_)
   | (refine zqw rfl rfl rfl H1r zqu51 ?_)
   | (refine zqw rfl rfl rfl H1n zqu51 ?_)
   | fail)
  intro w1a hU;have H2r:Hid (Blk w1a (w.heap.size) #[zI m,zI 0,zI 1,zI 0,zI 0,zI (-1),zS] 51):=hU.blk;have H2n:=shK hU H1n (by omega);have H2B:=shV hU H1B (by omega);have hsw1a:w1a.heap.size=w1.heap.size:=hU.size;clear hU H1r H1n H1B;obtain ⟨Rr0,Rr1,Rr2,Rr3,Rr4,Rr5,Rr6⟩:=shc7 H2r;go_wp2_with fail;exact bodyPost_ret (v:= .tuple #[.agg #[zI m,zI 0,zI 1,zI 0,zI 0,zI (-1),zS],zI 0]) (by simp [results,Tryz.results115,Rr0.o,Rr1.o,Rr2.o,Rr3.o,Rr4.o,Rr5.o,Rr6.o,go_sem]) rfl ⟨⟨m,0,1,0,0,-1,[]⟩,none,0,0,_,rfl,HV.o,deb.fresh_nil _ _,H2B.o⟩
end acc
namespace vnd
open book (Ev ev0 EMay evL evOf EncIs DecIs Cm cm0 So so0 BookIs FirstAt NoneAt Tells)
open acc (Ac Tm Bi SellIs GrantIs RekeyIs OweIs)
open ora (Pr IssueIs)
open token (Tok fmtL)
theorem sell_tok {a:Ac} {t:Tm} {te m:Int} {b:Ac} {l:Bi} (h:SellIs a t te m b l 0):(1≤l.id∧l.id≤1048575)∧1≤l.un∧l.un≤2097151:=by
 rcases h with ⟨h,rfl,rfl⟩ | ⟨_,_,h,_⟩ | ⟨_,_,_,h,_⟩ | ⟨hr,ht,hn,_,u,hu,rfl,rfl⟩
 ·rcases h with ⟨_,h⟩ | ⟨_,h1,h2⟩ | ⟨_,_,_,h⟩
  ·cases h
  ·exact absurd (h2.ok.1 rfl) h1
  ·exact absurd rfl h.ne
 ·cases h
 ·cases h
 ·have h1:=hr.1.2.2.2.1.1;have h2:=hu.1;unfold tar.Top at h2;have h3:u≠0:=fun e=>ht.2.2 (by rw [← e];exact hu);refine ⟨⟨h1,hn⟩,?_,?_⟩
  ·show 1≤u;omega
  ·show u≤2097151;omega
theorem grant_tok {a:Ac} {t:Tm} {m:Int} {b:Ac} {l:Bi} (h:GrantIs a t m b l 0):(1≤l.id∧l.id≤1048575)∧1≤l.un∧l.un≤2097151:=by
 rcases h with ⟨h,rfl,rfl⟩ | ⟨_,_,h,_⟩ | ⟨_,_,_,h,_⟩ | ⟨_,_,_,_,h,_⟩ | ⟨hr,ha,_,hn,_,rfl,rfl⟩
 ·rcases h with ⟨_,h⟩ | ⟨_,h1,h2⟩ | ⟨_,_,_,h⟩
  ·cases h
  ·exact absurd (h2.ok.1 rfl) h1
  ·exact absurd rfl h.ne
 ·cases h
 ·cases h
 ·cases h
 ·have h1:=hr.1.2.2.2.1.1;have h2:=hr.2.1.2.2.2.2;refine ⟨⟨h1,hn⟩,?_,?_⟩
  ·show 1≤t.al;have:=h2.1;omega
  ·exact h2.2
theorem rekey_tok {a:Ac} {b:Ac} {l:Bi} (h:RekeyIs a b l 0):(1≤l.id∧l.id≤1048575)∧1≤a.rv+1∧a.rv+1≤15:=by
 rcases h with ⟨_,_,_,h⟩ | ⟨_,_,_,_,h⟩ | ⟨_,_,_,_,_,h⟩ | ⟨ha,hr,hn,rfl,rfl,_⟩
 ·cases h
 ·cases h
 ·cases h
 ·exact ⟨⟨ha.2.2.2.1.1,hn⟩,by have:=ha.2.2.1.1;omega,by omega⟩
theorem tokB_ok {kd rv:Int} {l:Bi} {tg:Int} (hk:kd≠4) (h:(1≤l.id∧l.id≤1048575)∧1≤l.un∧l.un≤2097151) (ht:0≤tg∧tg≤65535):(tokB kd rv l tg).ok∧(tokB kd rv l tg).v = .agg #[zI 0,zI l.id,zI l.un,zI tg]:=by
 have e:tokB kd rv l tg=⟨0,l.id.toNat,l.un.toNat,tg.toNat⟩:=by unfold tokB;rw [if_neg hk]
 rw [e];refine ⟨⟨by show (0:Nat)≤3;omega,?_,?_,?_,?_,fun _=>?_,(fun h=>by cases h),fun h=>by rcases h with h | h <;> cases h⟩,?_⟩
 ·show 1≤l.id.toNat;omega
 ·show l.id.toNat≤1048575;omega
 ·show tg.toNat≤65535;omega
 ·show l.un.toNat≤2097151;omega
 ·show 1≤l.un.toNat;omega
 ·unfold token.Tok.v;show Value.agg #[zI ((0:Nat):Int),zI (l.id.toNat:Int),zI (l.un.toNat:Int),zI (tg.toNat:Int)]=_;rw [Int.toNat_of_nonneg (by omega),Int.toNat_of_nonneg (by omega),Int.toNat_of_nonneg ht.1];rfl
theorem tokB_ok4 {rv:Int} {l:Bi} {tg:Int} (h:(1≤l.id∧l.id≤1048575)∧1≤rv+1∧rv+1≤15) (ht:0≤tg∧tg≤65535):(tokB 4 rv l tg).ok∧(tokB 4 rv l tg).v = .agg #[zI 2,zI l.id,zI (rv+1),zI tg]:=by
 have e:tokB 4 rv l tg=⟨2,l.id.toNat,(rv+1).toNat,tg.toNat⟩:=by unfold tokB;rw [if_pos rfl]
 rw [e];refine ⟨⟨by show (2:Nat)≤3;omega,?_,?_,?_,?_,(fun h=>by cases h),fun _=>⟨?_,?_⟩,fun h=>by rcases h with h | h <;> cases h⟩,?_⟩
 ·show 1≤l.id.toNat;omega
 ·show l.id.toNat≤1048575;omega
 ·show tg.toNat≤65535;omega
 ·show (rv+1).toNat≤2097151;omega
 ·show 1≤(rv+1).toNat;omega
 ·show (rv+1).toNat≤15;omega
 ·unfold token.Tok.v;show Value.agg #[zI ((2:Nat):Int),zI (l.id.toNat:Int),zI ((rv+1).toNat:Int),zI (tg.toNat:Int)]=_;rw [Int.toNat_of_nonneg (by omega),Int.toNat_of_nonneg (by omega),Int.toNat_of_nonneg ht.1];rfl
theorem issue_tag {l ls:List Pr} {m r b d x:Int} (h:IssueIs l m r b d ls x 0):0≤x∧x≤65535:=by
 rcases h with ⟨_,_,_,h⟩ | ⟨_,_,_,_,h⟩ | ⟨hm,hp,⟨i,hi,rfl⟩,_,_⟩ | ⟨_,_,_,_,_,_,h⟩ | ⟨_,hp,_,_,_,rfl,_⟩
 ·cases h
 ·cases h
 ·exact (hm.each i hi.lt).1.2.2.2
 ·cases h
 ·exact hp.2.2.2
end vnd
namespace met
open Go.RowKit ora
def Alive (w:World) (a:Option Addr):Prop:=∀ y,a=some y→y.block<w.heap.size
theorem Alive.none (w:World):Alive w none:=fun y h=>by cases h
end met
namespace rct
open Go.RowKit
theorem met_tail {P:Program} {x:String × DataW Unit} {rest:List (String × DataW Unit)} {W:World} (h:laidMet P (x :: rest) W):laidMet P rest W:=by
 obtain ⟨ps,hv,hn,hc⟩:=h;obtain ⟨g',t',cs,fuel,p,q,hg',ht',hvar,hd,hr,rfl⟩:=hv;exact ⟨q,hr,(List.nodup_append.1 hn).2.1,fun b off hm=>hc b off (List.mem_append_right _ hm)⟩
end rct
end Go.Proofs.YtnpblpbohcegoaaGreatDoor
