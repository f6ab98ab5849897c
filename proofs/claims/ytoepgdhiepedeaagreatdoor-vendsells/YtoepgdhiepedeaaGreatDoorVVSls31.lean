import Derived.Test.YtoepgdhiepedeaaGreatDoorVVSls21
import Derived.Test.YtoepgdhiepedeaaGreatDoorVVSls28
import Derived.Test.YtoepgdhiepedeaaGreatDoorVVSls29
set_option linter.unusedVariables false
set_option linter.unusedSimpArgs false
set_option maxHeartbeats 4000000
set_option maxRecDepth 100000
namespace Go.Proofs.YtoepgdhiepedeaaGreatDoor
namespace vnd
open disk (RepIs repD lenAt itD)
open book (Ev ev0 evOf ECame)
open Go.RowKit
theorem it_in(c:List Int)(k:Nat):∀z∈(disk.itD c k).1,∀x∈z,x∈c:=by
 induction k with
 |zero=>intro z a;simp[disk.itD] at a
 |succ k ih=>
  intro z a x b;by_cases h:0<disk.lenAt c (disk.itD c k).2
  ·rw[disk.it_live h] at a;rcases List.mem_append.1 a with a|a
   ·exact ih z a x b
   ·rw[List.mem_singleton.1 a] at b;exact List.mem_of_mem_drop (List.mem_of_mem_take b)
  ·have e:=disk.it_dead h 1;rw[e] at a;exact ih z a x b
variable{o:List (List Int)}
theorem rep_in{c:List Int}{x f:Int}(h:RepIs c o x f):∀z∈o,∀y∈z,y∈c:=by
 rcases h with⟨_,rfl,_⟩|⟨_,_,rfl,_⟩|⟨_,_,rfl,_⟩
 ·intro z a;cases a
 ·intro z a;cases a
 ·exact it_in c _
theorem rep_len{c:List Int}{x f:Int}(h:RepIs c o x f):o.length≤2048:=(disk.rep_few h).1
theorem getD_inR{j:Nat}(h:j<o.length):o.getD j []∈o:=by
 have e:o.getD j []=o[j]:=by simp[List.getD,List.getElem?_eq_getElem h]
 rw[e];exact List.getElem_mem _
theorem take_mapE(o:List (List Int))(k:Nat)(h:k<o.length):(o.take k).map evOf++[evOf (o.getD k [])]=(o.take (k+1)).map evOf:=by
 have e:o.getD k []=o[k]:=by simp[List.getD,List.getElem?_eq_getElem h]
 rw[List.take_succ_eq_append_getElem h,List.map_append,e];rfl
def KeptPost(w:World)(c:List Int)(e:Ending)(w':World):Prop:=∃p m cp l f,e=.returned (.tuple #[.slice p m cp,zI f])∧KeptIs c l f∧ECame w' p m cp l∧m≤2048∧zB w w'
theorem ecame_nil(w:World):ECame w none 0 0 []:=⟨⟨rfl,.inl rfl⟩,λ_=>rfl,zc,by omega,λv a=>by cases a⟩
end vnd
namespace token
open Go.RowKit
theorem bodyOf_ok(k:Tok)(w:World)(hk:k.ok):
  Calls Tryz.prog 25 #[k.v] w λe w'=>e=.returned (.tuple #[zI (k.body:Int),zI 0])∧zB w w':=by
 have j:Hid (∀W,zC 52 #[.agg #[zI (k.c:Int),zI (k.i:Int),zI (k.a:Int),zI (k.t:Int)]] W λe w'=>e=.returned (zI 0)∧zB W w'):=λW=>by
  have:=fault_any k.c k.i k.a k.t W
  rwa [flaw_tok.2 hk] at this
 have h:Hid (zB w (w.alloc (.cells #[zI (k.c:Int),zI (k.i:Int),zI (k.a:Int),zI (k.t:Int)] 73))):=zb.alloc zc _;have l:Hid (Blk (w.alloc (.cells #[zI (k.c:Int),zI (k.i:Int),zI (k.a:Int),zI (k.t:Int)] 73)) w.heap.size #[zI (k.c:Int),zI (k.i:Int),zI (k.a:Int),zI (k.t:Int)] 73):=Blk.new _ _ _
 have g:Hid ((k.body:Int)=(k.c:Int)*2199023255552+(k.i:Int)*2097152+(k.a:Int)):=by
  show (k.body:Int)=_;unfold Tok.body;omega
 have m:=hk.c3;have n:=hk.i2;have p:=hk.a2;have A:(0:Int)≤(k.c:Int):=by omega
 have B:(0:Int)≤(k.i:Int):=by omega
 have C:(0:Int)≤(k.a:Int):=by omega
 have x:(k.c:Int)≤3:=by omega
 have y:(k.i:Int)≤1048575:=by omega
 have z:(k.a:Int)≤2097151:=by omega
 clear hk m n p;unfold Tok.v;rw[g.o];clear g;generalize (k.c:Int)=c at *;generalize (k.i:Int)=i at *;generalize (k.a:Int)=a at *;generalize (k.t:Int)=t at *;go_enter Tryz.func25,Tryz.ntmps25;go_wp2_with fail;refine(j.o _).mono ?_;rintro e q ⟨rfl,b⟩;have f:=shB h b;have d:=l.o.next b;have r:=d.cell 0;have s:=d.cell 1;have u:=d.cell 2;clear b d;go_wp2_with fail;refine bodyPost_ret (v:=.tuple #[zI (c*2199023255552+i*2097152+a),zI 0]) (by simp[results,Tryz.results25,go_sem]) rfl ⟨rfl,f.o⟩
open words
theorem wn_ok{a b c V:Nat}(h:WN a b c V):W3.ok ⟨a,b,c⟩∧W3.val ⟨a,b,c⟩=V:=by
 have e:=h.a1;have f:=h.b1;have g:=h.c1;have d:=h.val;refine⟨⟨⟨by show (0:Int)≤a;omega,by show (a:Int)<_;omega⟩,⟨by show (0:Int)≤b;omega,by show (b:Int)<_;omega⟩,by show (0:Int)≤c;omega,by show (c:Int)<_;omega⟩,?_⟩;unfold bigV at d;unfold W3.val;simp only;omega
theorem wn_of{X:W3}(h:X.ok){V:Nat}(hV:X.val=V):∃a b c:Nat,X=⟨a,b,c⟩∧WN a b c V:=by
 obtain⟨x,y,z⟩:=X;obtain⟨⟨d,e⟩,⟨f,g⟩,i,j⟩:=h;simp only at *;obtain⟨a,rfl⟩:=Int.eq_ofNat_of_zero_le d;obtain⟨b,rfl⟩:=Int.eq_ofNat_of_zero_le f;obtain⟨c,rfl⟩:=Int.eq_ofNat_of_zero_le i;refine⟨a,b,c,rfl,by omega,by omega,by omega,?_⟩;unfold W3.val at hV;unfold bigV;simp only at hV;omega
theorem times_wn(a b c V m:Nat)(w:World)(h:WN a b c V)(hm:m<4294967296)(hv:V*m<79228162514264337593543950336):
  Calls Tryz.prog 124 #[.agg #[.int .u32 (a:Int),.int .u32 (b:Int),.int .u32 (c:Int)],.int .u32 (m:Int)] w λe w'=>
   ∃(a' b' c':Nat)(o:Int),e=.returned (.tuple #[.agg #[.int .u32 (a':Int),.int .u32 (b':Int),.int .u32 (c':Int)],.int .u32 o])∧WN a' b' c' (V*m)∧zB w w':=by
 have d:=wn_ok h;have j:=times_any ⟨a,b,c⟩ m w d.1 (by omega) (by omega)
 obtain ⟨a',b',c',g,i⟩:=wn_of (X:=timesW ⟨a,b,c⟩ m) (carry3_ok _ _ _) (V:=V*m) (by
  rw[times_mod,d.2];unfold top
  rw [← Int.natCast_mul,Int.emod_eq_of_lt (by omega) (by omega)])
 refine j.mono ?_;rintro e w' ⟨rfl,f⟩;exact⟨a',b',c',_,by rw[g],i,f⟩
end token
namespace book
open Go.RowKit
open acc (Ac Tm Bi APost BPost TFault TRight OpenIs OweIs SellIs GrantIs RekeyIs wf6 ACame TCame)
theorem wf_i{z:Int}(h0:-1≤z)(h1:z≤4000000000):(Lit.int .i64 z).wf=true:=by
 have h1:IntKind.i64.min≤z:=by
  have e:IntKind.i64.min=-9223372036854775808:=by decide
  omega
 have a:z≤IntKind.i64.max:=by
  have e:IntKind.i64.max=9223372036854775807:=by decide
  omega
 show (decide (IntKind.i64.min≤z)&&decide (z≤IntKind.i64.max))=true;rw[Bool.and_eq_true];exact⟨decide_eq_true h1,decide_eq_true a⟩
theorem may_wf{a:Ac}(h:acc.AMay a):wf6 a:=by
 obtain⟨_,⟨b,c⟩,⟨d,e⟩,⟨c1,c2⟩,⟨f,g⟩,⟨i,j⟩,k,l⟩:=h;exact⟨wf_i (by omega) (by omega),wf_i (by omega) (by omega),wf_i (by omega) (by omega),wf_i (by omega) (by omega),wf_i (by omega) (by omega),wf_i (by omega) (by omega)⟩
def AWf(bk:List Cm):Prop:=∀c∈bk,wf6 c.a
theorem owe_wf{a b:Ac}{d:tar.Du}(h:OweIs a d b 0):wf6 b∧b.me=a.me:=by
 rcases h with⟨_,_,e⟩|⟨_,_,_,e⟩|⟨_,_,_,_,e⟩|⟨p,_,_,rfl,_⟩
 ·cases e
 ·cases e
 ·cases e
 ·have h:=may_wf p;exact⟨⟨h.1,h.2.1,h.2.2.1,h.2.2.2.1,h.2.2.2.2.1,h.2.2.2.2.2⟩,rfl⟩
variable{base gW B:Nat}{bk:List Cm}{w w':World}{xs:List Cu}{pt:Option Addr}{a:Option Addr}{lt ct:Nat}{t:Tm}{w0:World}{V:Value}{c:Cm}{v:Ev}
theorem tells_wf{b:Ac}{l:Bi}(h:Tells t c v b l 0)(hl:l.un≤2097151)(hl0:0≤l.un):wf6 b∧b.me=c.a.me:=by
 rcases h with⟨_,h⟩|⟨_,h⟩|⟨_,h⟩
 ·rcases h with⟨p,_,_⟩|⟨_,_,e,_⟩|⟨_,_,_,e,_⟩|⟨d,_,_,_,u,_,rfl,rfl⟩
  ·exact absurd rfl (fun (q:(0:Int)=0)=>by
    rcases p with⟨_,p⟩|⟨_,p,f⟩|⟨_,_,_,p⟩
    ·cases p
    ·exact p (f.ok.1 rfl)
    ·exact p.ne rfl)
  ·cases e
  ·cases e
  ·obtain⟨_,⟨g,i⟩,⟨j,k⟩,⟨c1,c2⟩,⟨m,n⟩,⟨o,r⟩,s,x⟩:=d.1;obtain⟨_,_,_,_,⟨D,E⟩,⟨B,C⟩,_⟩:=acc.rolled_may d.1 d.2.2;have y:=d.2.2.1;have F:u≤2097151:=hl;have A:0≤u:=hl0;refine⟨⟨wf_i (z:=c.a.me) (by omega) (by omega),wf_i (z:=c.a.rv) (by omega) (by omega),wf_i (z:=c.a.nx+1) (by omega) (by omega),wf_i (z:=v.mo) (by omega) (by omega),wf_i (z:=(acc.rolled c.a v.mo).bo+u) (by omega) (by omega),wf_i (z:=c.a.fr) (by omega) (by omega)⟩,rfl⟩
 ·rcases h with⟨p,_,_⟩|⟨_,_,e,_⟩|⟨_,_,_,e,_⟩|⟨_,_,_,_,e,_⟩|⟨d,_,_,_,_,rfl,_⟩
  ·exact absurd rfl (fun (q:(0:Int)=0)=>by
    rcases p with⟨_,p⟩|⟨_,p,f⟩|⟨_,_,_,p⟩
    ·cases p
    ·exact p (f.ok.1 rfl)
    ·exact p.ne rfl)
  ·cases e
  ·cases e
  ·cases e
  ·obtain⟨_,⟨g,i⟩,⟨j,k⟩,⟨c1,c2⟩,⟨m,n⟩,⟨o,r⟩,s,x⟩:=d.1;obtain⟨_,_,_,_,⟨D,E⟩,⟨B,C⟩,_⟩:=acc.rolled_may d.1 d.2.2;have y:=d.2.2.1;exact⟨⟨wf_i (z:=c.a.me) (by omega) (by omega),wf_i (z:=c.a.rv) (by omega) (by omega),wf_i (z:=c.a.nx+1) (by omega) (by omega),wf_i (z:=v.mo) (by omega) (by omega),wf_i (z:=(acc.rolled c.a v.mo).bo) (by omega) (by omega),wf_i (z:=v.mo) (by omega) (by omega)⟩,rfl⟩
 ·rcases h with⟨_,_,_,e⟩|⟨_,_,_,_,e⟩|⟨_,_,_,_,_,e⟩|⟨d,_,_,rfl,_,_⟩
  ·cases e
  ·cases e
  ·cases e
  ·obtain⟨_,⟨g,i⟩,⟨j,k⟩,⟨c1,c2⟩,⟨m,n⟩,⟨o,r⟩,s,x⟩:=d;exact⟨⟨wf_i (z:=c.a.me) (by omega) (by omega),wf_i (z:=c.a.rv+1) (by omega) (by omega),wf_i (z:=c.a.nx+1) (by omega) (by omega),wf_i (z:=c.a.mo) (by omega) (by omega),wf_i (z:=c.a.bo) (by omega) (by omega),wf_i (z:=c.a.fr) (by omega) (by omega)⟩,rfl⟩
theorem may_un(h:EMay v):0≤v.un∧v.un≤2097151:=by
 unfold EMay at h;omega
theorem hap_wf{c c':Cm}(h:HapIs t c v c' 0)(hm:EMay v):wf6 c'.a∧c'.a.me=c.a.me:=by
 rcases h with⟨_,b,q,r⟩|⟨_,b,l,e,q,r⟩
 ·rw[r rfl];exact owe_wf q
 ·rcases r with⟨x,y⟩|⟨_,_,y⟩|⟨x,y,_,rfl⟩
  ·exact absurd y.symm x
  ·cases y
  ·subst x;subst y;exact tells_wf q (may_un hm).2 (may_un hm).1
theorem getD_in{j:Nat}(h:j<bk.length):bk.getD j cm0∈bk:=getD_mem h
theorem AWf.set{k:Nat}(h:AWf bk)(hc:wf6 c.a):AWf (bk.set k c):=λx d=>by
 rcases List.mem_or_eq_of_mem_set d with b|rfl
 ·exact h x b
 ·exact hc
theorem AWf.snoc(h:AWf bk)(hc:wf6 c.a):AWf (bk++[c]):=λx d=>by
 rcases List.mem_append.1 d with b|b
 ·exact h x b
 ·rw[List.mem_singleton.1 b];exact hc
def wrc(V:Value)(t:Tm)(pt:Option Addr)(lt ct B:Nat):Array Value:=#[V,.slice pt lt ct,zI t.ff,zI t.fb,zI t.db,zI t.al,.map (some B)]
structure Kp (base gW B:Nat) (w w':World):Prop where
 os:w'.os=w.os
 tape:w'.tape=w.tape
 output:w'.output=w.output
 size:w.heap.size≤w'.heap.size
 block:∀k,k<base→k≠gW→k≠B→w'.heap[k]?=w.heap[k]?
theorem Kp.refl(base gW B:Nat)(w:World):Kp base gW B w w:=⟨rfl,rfl,rfl,zc,λ_ _ _ _=>rfl⟩
theorem Kp.trans{a b c:World}(h:Kp base gW B a b)(k:Kp base gW B b c):Kp base gW B a c:=⟨k.os.trans h.os,k.tape.trans h.tape,k.output.trans h.output,Nat.le_trans h.size k.size,λi d e f=>(k.block i d e f).trans (h.block i d e f)⟩
theorem Kp.of{base gW B n:Nat}{a b:World}(h:Below n a b)(hn:base≤n):Kp base gW B a b:=⟨h.os,h.tape,h.output,h.size,λi c _ _=>h.block i (by omega)⟩
theorem Kp.bel{base gW B n:Nat}{a b c:World}(k:Kp base gW B b c)(h:Below n a b)(hn:n≤base)(h1:n≤gW)(h2:n≤B):Below n a c:=⟨k.os.trans h.os,k.tape.trans h.tape,k.output.trans h.output,Nat.le_trans h.size k.size,λi d=>(k.block i (by omega) (by omega) (by omega)).trans (h.block i d)⟩
theorem Kp.keep{base gW B G:Nat}{a b:World}{cs:Array Value}{t:TypeId}(k:Kp base gW B a b)(h:Blk a G cs t)(h0:G<base)(h1:G≠gW)(h2:G≠B):Blk b G cs t:=by
 unfold Blk at *;rw[k.block G h0 h1 h2];exact h
theorem Kp.upd{base gW B g:Nat}{a b:World}{cs:Array Value}{t:TypeId}(hU:Upd a b g cs t)(hg:base≤g∨g=gW):Kp base gW B a b:=by
 have h:=hU.bel 0 a (Nat.zero_le _) zb;exact⟨h.os,h.tape,h.output,h.size,λk c d _=>hU.oth k (by omega)⟩
theorem Kp.grown{a b:World}{own:Option Nat}(hg:a.grownBy b own)(hs:base≤a.heap.size)(ho:∀g,own=some g→base≤g):Kp base gW B a b:=⟨hg.os,hg.tape,hg.output,hg.size,λk c _ _=>hg.block k (by omega) (λe=>by have:=ho k e.symm;omega)⟩
structure Wr (w0:World) (base gW B:Nat) (t:Tm) (pt:Option Addr) (lt ct:Nat) (V:Value) (xs:List Cu) (bk:List Cm) (w:World):Prop where
 blk:Blk w gW (wrc V t pt lt ct B) 170
 mp:MpI w B (mes bk)
 hold:Holds w base V xs bk
 gw:gW<base
 gb:B<base
 ne:gW≠B
 n0:w0.heap.size≤gW
 n1:w0.heap.size≤B
 sz:base≤w.heap.size
 bel:zB w0 w
 few:Small bk 120
 wf:AWf bk
theorem Wr.next(h:Wr w0 base gW B t pt lt ct V xs bk w)(hb:zB w w'):Wr w0 base gW B t pt lt ct V xs bk w':=
 ⟨h.blk.next hb,h.mp.below hb,h.hold.next hb,h.gw,h.gb,h.ne,h.n0,h.n1,Nat.le_trans h.sz hb.size,h.bel.trans (hb.mono h.bel.size),h.few,h.wf⟩
theorem Wr.kp(h:Wr w0 base gW B t pt lt ct V xs bk w)(hb:zB w w'):Kp base gW B w w':=.of hb h.sz
def WPost(w0:World)(base gW B:Nat)(t:Tm)(pt:Option Addr)(lt ct:Nat)(R:List Cm→Int→Prop)(w:World)(e:Ending)(w':World):Prop:=
 Kp base gW B w w'∧((∃V xs bk',e=.returned (.tuple #[])∧R bk' 0∧(Small bk' 120→Wr w0 base gW B t pt lt ct V xs bk' w'))∨∃f bk',f≠0∧e=.panicked (thrown f)∧R bk' f)
theorem WPost.back{R R':List Cm→Int→Prop}{w1 w:World}{e:Ending}{w':World}(h:WPost w0 base gW B t pt lt ct R w e w')(hk:Kp base gW B w1 w)(hR:∀b f,R b f→R' b f):WPost w0 base gW B t pt lt ct R' w1 e w':=by
 refine⟨hk.trans h.1,?_⟩;rcases h.2 with⟨V,i,a,c,d,g⟩|⟨f,a,c,d,g⟩
 ·exact .inl ⟨V,i,a,c,hR _ _ d,g⟩
 ·exact .inr ⟨f,a,c,d,hR _ _ g⟩
theorem rowD_same{n:Nat}{zs:List tar.Du}(h:tar.RowD w a n zs)(he:0<n→∀x,a=some x→w'.heap[x.block]?=w.heap[x.block]?):tar.RowD w' a n zs:=by
 refine⟨h.1,?_⟩;rcases h.2 with d|⟨b,c,rfl,j⟩
 ·exact .inl d
 ·refine .inr ⟨b,c,rfl,λi k=>?_⟩;have f:=j i k;have g:w'.heap[b]?=w.heap[b]?:=he (by omega) _ rfl;have e:∀o,w'.cell? ⟨b,o,none⟩=w.cell? ⟨b,o,none⟩:=λo=>by simp[World.cell?,g]
  rw[e,e];exact f
theorem came_same{n cap:Nat}{zs:List tar.Du}(h:tar.Came w a n cap zs)(he:0<n→∀x,a=some x→w'.heap[x.block]?=w.heap[x.block]?):tar.Came w' a n cap zs:=⟨rowD_same h.row he,h.nil,h.room,h.bytes,h.wf⟩
theorem lo_same{base:Nat}{v:Value}{l:List So}(h:Lo w base v l)(he:∀g,v.ownBlock=some g→w'.heap[g]?=w.heap[g]?):Lo w' base v l:=by
 refine⟨h.1,?_⟩;rcases h.2 with i|⟨c,a,b,d,e,f,rest⟩
 ·exact .inl i
 ·exact .inr ⟨c,a,b,d,e,by rw[he c (by rw[d];rfl)];exact f,rest⟩
theorem Has.same{base:Nat}{x:Cu}(h:Has w base x c)(h1:∀g,x.sold.ownBlock=some g→w'.heap[g]?=w.heap[g]?)(h2:0<x.dn→∀p,x.dp=some p→w'.heap[p.block]?=w.heap[p.block]?):Has w' base x c:=⟨h.num,⟨came_same h.ds.came h2,h.ds.new⟩,lo_same h.so h1⟩
theorem Holds.put2{w w4:World}{base:Nat}{k:Nat}{x':Cu}{c':Cm}(h:Holds w base V xs bk)(hk:k<xs.length)
  (hO:∀g,g<w.heap.size→V.ownBlock≠some g→(xs.getD k cu0).sold.ownBlock≠some g→w4.heap[g]?=w.heap[g]?) (has:Has w4 base x' c')
  (own:∀g,x'.sold.ownBlock=some g→(xs.getD k cu0).sold.ownBlock=some g∨w.heap.size≤g) (new:0<x'.dn→∀p,x'.dp=some p→w.heap.size≤p.block) (self:∀g,x'.sold.ownBlock=some g→0<x'.dn→∀p,x'.dp=some p→p.block≠g)
  (hr:Lc w4 base V (xs.set k x')):Holds w4 base V (xs.set k x') (bk.set k c'):=by
 have A:k<bk.length:=by rw[← h.len];exact hk
 have m:∀i,i<xs.length→∀g,(xs.getD i cu0).sold.ownBlock=some g→g<w.heap.size:=λi a g f=>(World.ownsRow.lt (h.has i a).so g f).2
 have r:∀i,i<xs.length→0<(xs.getD i cu0).dn→∀p,(xs.getD i cu0).dp=some p→p.block<w.heap.size:=λi a c p d=>by
  obtain⟨b,E,e,D,_⟩:=(h.has i a).ds.came.row.at c;rw[d] at e;rw[Option.some.inj e];exact D
 have s:∀g,V.ownBlock=some g→g<w.heap.size:=λg f=>(World.ownsRow.lt h.row g f).2
 have t:Off x' V.ownBlock:=⟨fun g f q=>by
  rcases own g f with e|e
  ·exact(h.off k hk).1 g e q
  ·have:=s g q;omega,λc p d q=>by
  have l:=new c p d;have C:=s p.block q.symm
  omega⟩
 have n:∀i,i<xs.length→i≠k→Apart (xs.getD i cu0) x':=λi a o=>by
  refine⟨λg l C=>?_,λg l c p d q=>?_,λg l c p d q=>?_⟩
  ·rcases own g C with e|e
   ·exact(h.apart i k a hk o).1 g l e
   ·have:=m i a g l;omega
  ·have F:=new c p d;have G:=m i a g l;omega
  ·rcases own g l with e|e
   ·exact(h.apart i k a hk o).2.2 g e c p d q
   ·have:=r i a c p d;omega
 refine⟨hr,by rw[List.length_set,List.length_set,h.len],λi a=>?_,λi a=>?_,λi a=>?_,λi j a z y=>?_⟩
 all_goals rw[List.length_set] at a
 ·rw[getD_put xs x' cu0 k i hk,getD_put bk c' cm0 k i A];by_cases q:i=k
  ·rw[if_pos q,if_pos q];exact has
  ·rw[if_neg q,if_neg q];have B:=h.apart i k a hk q;refine(h.has i a).same (λg x=>hO g (m i a g x) (λe=>(h.off i a).1 g x e) (λe=>B.1 g x e)) (λc p d=>hO p.block (r i a c p d) (λe=>(h.off i a).2 c p d e.symm) (λe=>B.2.2 p.block e c p d rfl))
 ·rw[getD_put xs x' cu0 k i hk];by_cases q:i=k
  ·rw[if_pos q];exact t
  ·rw[if_neg q];exact h.off i a
 ·rw[getD_put xs x' cu0 k i hk];by_cases q:i=k
  ·rw[if_pos q];exact self
  ·rw[if_neg q];exact h.self i a
 ·rw[List.length_set] at z;rw[getD_put xs x' cu0 k i hk,getD_put xs x' cu0 k j hk];by_cases q:i=k<;>by_cases u:j=k
  ·omega
  ·rw[if_pos q,if_neg u];exact(n j z u).symm
  ·rw[if_neg q,if_pos u];exact n i a q
  ·rw[if_neg q,if_neg u];exact h.apart i j a z y
theorem lc_put2{w W:World}{base g n cap k:Nat}{x':Cu}{cur:Array Value}(h:Lc w base (.slice (some ⟨g,0,none⟩) n cap) xs)(hB:Blk w g cur 71)(hk:k<xs.length)(hW:Blk W g (putAll cur (k*8) x'.cs) 71):Lc W base (.slice (some ⟨g,0,none⟩) n cap) (xs.set k x'):=by
 unfold Lc at *;rw[List.length_set];refine⟨by rw[cellsC_len,List.length_set],?_⟩;rcases h.2 with⟨p,_⟩|⟨u,f,a,m,q,b,s,r,o,t⟩
 ·cases p
 ·simp only[Value.slice.injEq,Option.some.injEq,Addr.mk.injEq,and_true] at m;obtain⟨rfl,rfl,rfl⟩:=m
  have e:a=cur:=by
   have d:=hB;rw[d] at b;injection b with b
   injection b with b
   exact b.symm
  subst e;refine .inr ⟨g,cap,_,rfl,q,hW,s,r,by rw[putAll_size];exact o,?_⟩;apply List.ext_getElem?;intro j;have l:x'.cs.length=8:=rfl;rw[cellsC_get,List.length_set,getD_put xs x' cu0 k (j/8) hk];by_cases c:j<xs.length*8
  ·rw[if_pos c,List.getElem?_take_of_lt c,Array.getElem?_toList,putAll_get _ _ _ _ (by rw[o,l];omega),l];by_cases d:k*8≤j∧j<k*8+8
   ·rw[if_pos d,if_pos (by omega),show j-k*8=j%8 by omega]
   ·rw[if_neg d,if_neg (by omega)];have i:a.toList[j]?=(cellsC xs)[j]?:=by rw[← t,List.getElem?_take_of_lt c]
    rw[Array.getElem?_toList] at i;rw[i,cellsC_get,if_pos c]
  ·rw[if_neg c,List.getElem?_eq_none (by rw[List.length_take];omega)]
theorem putAll_more(cs:Array Value):∀(l:List Value)(o:Nat)(v:Value),(putAll cs o l).setIfInBounds (o+l.length) v=putAll cs o (l++[v])
 |[],o,v=>rfl
 |x::l,o,v=>by
  have:=putAll_more (cs.setIfInBounds o x) l (o+1) v;rw[List.cons_append,putAll,putAll,← this,List.length_cons,show o+(l.length+1)=o+1+l.length by omega]
theorem at_cust{w:World}{base n cap k:Nat}(h:Lc w base (.slice a n cap) xs)(hk:k<xs.length):∃g cur,a=some ⟨g,0,none⟩∧base≤g∧Blk w g cur 71∧k*8+8≤cur.size∧∀j,j<8→cur[k*8+j]?=(xs.getD k cu0).cs[j]?:=by
 have q:xs.length=n:=by
  obtain⟨m,o,l,_⟩:=h.row;injection l with _ e _
  exact e.symm
 obtain⟨g,cur,b,c,d,p,f⟩:=lc_lies h (by omega);exact⟨g,cur,b,c,d,by omega,λj i=>f k j hk i⟩
open acc (fresh_updN fresh_drew came_lt)
def CuPost(w:World)(a:Option Addr)(bk:List Cm)(me:Int)(e:Ending)(w':World):Prop:=w'=w∧((∃k g,FirstAt bk me k∧a=some ⟨g,0,none⟩∧e=.returned (.pointer (some ⟨g,k*8,none⟩)))∨(NoneAt bk me∧e=.panicked (thrown 18)))
theorem bcust(gW B:Nat)(t:Tm)(pt:Option Addr)(lt ct:Nat)(a:Option Addr)(n cap:Nat)(bk:List Cm)(me:Int)(w:World)(hw:Blk w gW #[.slice a n cap,.slice pt lt ct,zI t.ff,zI t.fb,zI t.db,zI t.al,.map (some B)] 170)(hm:MpI w B (mes bk))(hn:bk.length=n)(ha:0<n→∃g,a=some ⟨g,0,none⟩)(hs:n≤1000):Calls Tryz.prog 153 #[.pointer (some ⟨gW,0,none⟩),zI me] w λe w'=>CuPost w a bk me e w':=by
 have f:Hid (∀W,zC 164 #[zI 18] W λe w'=>e=.panicked (thrown 18)∧w'=W):=λW=>insist_no 18 (by decide) W;have j:=hw.cell 0;have l:=hw.cell 6;have b:=lookI_run hm me;clear hw hm;cases hf:firstI (mes bk) me with
 |none=>
  rw[hf] at b;simp only[Option.getD_none,Option.isSome_none] at b;have d:=zh (first_none hf);clear hf;go_enter Tryz.func153,Tryz.ntmps153;go_wp2_with fail;refine(f.o _).mono ?_;rintro e i ⟨rfl,rfl⟩;exact⟨rfl,rfl,.inr ⟨d.o,rfl⟩⟩
 |some k=>
  rw[hf] at b;simp only[Option.getD_some,Option.isSome_some] at b;have c:=first_some hf;have h:k<n:=by have:=c.1;omega
  obtain⟨g,rfl⟩:=ha (by omega);have d:=zh c;clear hf c ha hn;go_enter Tryz.func153,Tryz.ntmps153;go_wp2_with fail;go_ret;exact⟨rfl,.inl ⟨k,g,d.o,rfl,by first|rfl|simp⟩⟩
def OwPost(w:World)(x:Ac)(d:tar.Du)(e:Ending)(w':World):Prop:=zB w w'∧((∃b pb lb cb,e=.returned (acc.Ac.v b pb lb cb)∧OweIs x d b 0∧deb.Fresh w' w.heap.size pb lb cb b.ds)∨∃b f,f≠0∧e=.panicked (thrown f)∧OweIs x d b f)
theorem bowing(x:Ac)(p:Option Addr)(len cap:Nat)(d:tar.Du)(w:World)(ha:ACame w x p len cap)(hd:(Lit.int .i64 d.a).wf=true∧(Lit.int .i64 d.b).wf=true):Calls Tryz.prog 154 #[.agg #[zI x.me,zI x.rv,zI x.nx,zI x.mo,zI x.bo,zI x.fr,.slice p len cap],.agg #[zI d.a,zI d.b]] w λe w'=>OwPost w x d e w':=by
 have L:Hid (∀(f:Int) (hf:f≠0) W,zC 164 #[zI f] W λe w'=>e=.panicked (thrown f)∧w'=W):=λf hf W=>insist_no f hf W;have M:Hid (∀W,zC 164 #[zI 0] W λe w'=>e=.returned (.tuple #[])∧w'=W):=λW=>insist_ok W;obtain⟨l,P,t,u,z,h,a3⟩:=sh3 w #[zI x.me,zI x.rv,zI x.nx,zI x.mo,zI x.bo,zI x.fr,.slice p len cap] 55 #[zI d.a,zI d.b] 42 #[zI 0,zI 0,zI 0,zI 0,zI 0,zI 0,zS] 55;have s:=zh (ha.below h.o);go_enter Tryz.func154,Tryz.ntmps154;go_upto_region 1 with fail
 rw[P.o];have O:Hid (zC 182 #[.agg #[zI x.me,zI x.rv,zI x.nx,zI x.mo,zI x.bo,zI x.fr,.slice p len cap],.agg #[zI d.a,zI d.b]] l λe w'=>APost l (OweIs x d) e w'):=acc.kowe _ x p len cap d s.o hd;clear hd ha;have N:=zh h.o.size;go_wp2_with refine zw ?_;refine O.o.mono ?_;rintro e w1 ⟨b,r,q,m,f,rfl,X,hf,g⟩;have a2:=g.size;have T:=zh X;have j:=zh hf;obtain⟨Y,B,C⟩:=zn3 g t u z;have A:=shB h g;clear X hf g;unfold acc.Ac.v acc.Ac.cs;go_wp2_with (first|refine zs ?_|refine zw ?_)
 intro U c;have D:=zyb c;obtain⟨E,Z⟩:=zk2 c B C;have i:=zk c A;have k:Hid (deb.Fresh U l.heap.size r q m b.ds):=fresh_updN j.o c (λQ y S=>by have f1:=j.o.new Q y S;omega);clear c;by_cases n:f=0
 case neg=>
  have I:=L.o f n;have J:=zh I;have K:=zh n;clear n;go_wp2_with refine zw ?_;refine(J.o _).mono ?_;rintro e V ⟨rfl,rfl⟩;exact⟨rfl,i.o,.inr ⟨b,f,K.o,rfl,T.o⟩⟩
 subst n;go_wp2_with refine zw ?_;refine(M.o _).mono ?_;rintro e V ⟨rfl,R⟩;obtain rfl:U=V:=R.symm;go_wp2_with (first|refine zs ?_|refine zw ?_)
 intro V2 c;obtain⟨a0,a1⟩:=zk2 c D E;have F:=zk c i;have G:=zyb c;have H:Hid (deb.Fresh V2 l.heap.size r q m b.ds):=fresh_updN k.o c (λQ y S=>by have f1:=k.o.new Q y S;omega);clear c;go_wp2_with fail;exact zr (.agg #[zI b.me,zI b.rv,zI b.nx,zI b.mo,zI b.bo,zI b.fr,.slice r q m]) (by simp[results,Tryz.results154,scl7 G,go_sem]) ⟨F.o,.inl ⟨b,r,q,m,rfl,T.o,H.o.low N.o⟩⟩
end book
namespace words
open Go.RowKit
theorem own_ru{w:World}{base:Nat}{v:Value}{n:Nat}{l:List Nat}(h:w.ownsRow base 83 1 v n (l.map λ(x:Nat)=>Value.int .u32 (x:Int)))(hl:l.length=n)(hlt:∀x∈l,x<4294967296):
  ∃a cap,v=.slice a n cap∧Ru w a n cap l:=by
 rcases h.2 with⟨rfl,rfl⟩|⟨g,cap,j,rfl,o,m,c,_,k,d⟩
 ·exact⟨none,0,rfl,hl,hlt,λ_=>rfl,zc,.inl rfl,λ_ _ _ e _=>by cases e⟩
 ·refine⟨_,cap,rfl,hl,hlt,(λe=>by cases e),c,.inr ⟨g,0,rfl,λi p=>?_⟩,λb f s e _=>by obtain⟨rfl,-,-⟩:=(by simpa using e:g=b∧0=f∧none=s);exact⟨_,_,m⟩⟩;have:=h.cellAt i (by omega);rw[Nat.zero_add,this];simp[List.getD,List.getElem?_eq_getElem (show i<l.length by omega)]
theorem twin_any(a:Option Addr)(n cap m:Nat)(w:World)(hr:Ru w a n cap (dig m))(hl:n≤100):
  Calls Tryz.prog 140 #[.slice a n cap] w λe w'=>Gives w m e w':=by
 obtain⟨H,E,s,t,y⟩:=info_parts info_u32;cases a with
 |none=>
  have r:=hr.nil rfl;have D:n=0:=by have:=hr.room;omega
  subst r D;have A:∀w:World,(Builtin.append_ #[25,25] 25 #[zS,zS]).run Tryz.prog w=.ok (zS) w:=λw=>by kernel_rfl
  have q:Hid (Gives w m (.returned (zS)) w):=Gives.mk hr zb;clear hr;go_enter Tryz.func140,Tryz.ntmps140;go_wp2;go_ret;exact q.o
 |some x=>
  have g:Hid (Ru w (some x) n cap (dig m)):=hr;clear hr;go_enter Tryz.func140,Tryz.ntmps140
  go_wp2_with (first
   |(at_builtin;refine wpList_append_own _ rfl _ _ 25 rfl w.heap.size 83 H (.int .u32 0) 1 4 Tryz.underlying25 E s t y rfl (by decide) _ _ _ rfl (World.ownsRow_nil _ _ _ _) x n cap ((dig m).map λ(x:Nat)=>Value.int .u32 (x:Int)) rfl ?c0 ?c1 ?c2 ?c3 ?c4 ?c5 ?_)
   | go_in)
  case c0=>simp[g.o.len]
  case c5=>exact zc
  case c1=>
   intro j u f;rcases g.o.cell with h|⟨b,I,h,r⟩
   ·rw[List.getElem?_eq_none (by simp[g.o.len];omega)] at f;cases f
   ·obtain rfl:=Option.some.inj h;by_cases p:j<(dig m).length
    ·simp[List.getElem?_eq_getElem p] at f;subst f;have:=r j (by rw[g.o.len] at p;exact p);simpa [Addr.add_lit,List.getD,List.getElem?_eq_getElem p] using this
    ·rw[List.getElem?_eq_none (by simp;omega)] at f;cases f
  case c2=>intro u f;obtain⟨z,_,rfl⟩:=List.mem_map.1 f;rfl
  case c3=>unfold maxLen;omega
  case c4=>omega
  intro J w' c B _;obtain⟨C,i,G,d⟩:=own_ru (l:=dig m) (n:=n) (by simpa using c) g.o.len g.o.lt;rw[G];have q:Hid (Gives w m (.returned (.slice C n i)) w'):=Gives.mk d (zb.grown B zc (λk F=>by simp[Value.ownBlock] at F));clear c B d;go_wp2;go_ret;exact q.o
end words
end Go.Proofs.YtoepgdhiepedeaaGreatDoor
