import Derived.Test.YtoepgdhiepedeaaGreatDoorVVSls18
import Derived.Test.YtoepgdhiepedeaaGreatDoorVVSls19
import Derived.Test.YtoepgdhiepedeaaGreatDoorVVSls26
set_option linter.unusedVariables false
set_option linter.unusedSimpArgs false
set_option maxHeartbeats 4000000
set_option maxRecDepth 100000
namespace Go.Proofs.YtoepgdhiepedeaaGreatDoor
namespace disk
open Go.RowKit cell
theorem sliT:SliT Tryz.prog 25 140:=⟨by kernel_rfl,Tryz.underlying140⟩
end disk
namespace book
open Go.RowKit
open acc (Ac Tm Bi APost BPost TFault TRight OpenIs)
variable{cs:Array Value}{st:Nat→List Cm}{xs:List Cu}{own:Option Nat}{pt:Option Addr}{pa:Option Addr}{g8 base k:Nat}{x x':Cu}{w w':World}{l:List Ev}{t:TypeId}{c':Cm}{pc:Nat}
theorem lc_upd2{w W:World}{base g:Nat}{v:Value}{l:List Cu}(h:Lc w base v l)(hU:Upd w W g cs t)(hg:g<base):Lc W base v l:=by
 refine⟨h.1,?_⟩;rcases h.2 with f|⟨c,a,b,i,d,e,rest⟩
 ·exact .inl f
 ·exact .inr ⟨c,a,b,i,d,by rw[hU.oth c (by omega)];exact e,rest⟩
theorem Holds.upd{w W:World}{base g:Nat}{V:Value}{bk:List Cm}(h:Holds w base V xs bk)(hU:Upd w W g cs t)(hg:g<base):Holds W base V xs bk:=
 ⟨lc_upd2 h.row hU hg,h.len,λi a=>⟨(h.has i a).num,⟨acc_upd (h.has i a).ds.came hU (λc y d q=>by have:=(h.has i a).ds.new c y d;omega),(h.has i a).ds.new⟩,lo_upd (h.has i a).so hU (λk b q=>by have:=(World.ownsRow.lt (h.has i a).so k b).1;omega)⟩,h.off,h.self,h.apart⟩
theorem Turned.next{w w' w'':World}{base:Nat}(h:Turned w w' base x x' c')(hb:zB w' w''):Turned w w'' base x x' c':=⟨h.grown.trans (grown_of hb _),h.has.next hb,h.own,h.new,h.self⟩
theorem Turned.upd{w w' w'':World}{base g:Nat}{ty:TypeId}(h:Turned w w' base x x' c')(hU:Upd w' w'' g cs ty)(hg:w.heap.size≤g)(h1:∀k,x'.sold.ownBlock=some k→k≠g)(h2:0<x'.dn→∀p,x'.dp=some p→p.block≠g):Turned w w'' base x x' c':=⟨grown_upd h.grown hU hg,⟨h.has.num,⟨acc_upd h.has.ds.came hU h2,h.has.ds.new⟩,lo_upd h.has.so hU h1⟩,h.own,h.new,h.self⟩
theorem Turned.prev{w0 w w':World}{base:Nat}(h:Turned w w' base x x' c')(hb:zB w0 w):Turned w0 w' base x x' c':=⟨(grown_of hb _).trans h.grown,h.has,λg a=>(h.own g a).imp id (λq=>Nat.le_trans hb.size q),λb p c=>Nat.le_trans hb.size (h.new b p c),h.self⟩
theorem Turned.lt{base:Nat}(h:Turned w w' base x x' c'):(∀k,x'.sold.ownBlock=some k→k<w'.heap.size)∧(0<x'.dn→∀p,x'.dp=some p→p.block<w'.heap.size):=⟨λk a=>(World.ownsRow.lt h.has.so k a).2,λc p d=>by
 obtain⟨b,g,e,f,_⟩:=h.has.ds.came.row.at c;rw[d] at e
 rw [Option.some.inj e];exact f⟩
theorem blk_kept{g:Nat}{ty:TypeId}(h:Blk w g cs ty)(hg:w.grownBy w' own)(hne:some g≠own):Blk w' g cs ty:=by
 show w'.heap[g]?=_;rw[hg.block g h.lt hne];exact h
theorem lc_kept{base:Nat}{v:Value}{l:List Cu}(h:Lc w base v l)(hg:w.grownBy w' own)(hne:∀g,v.ownBlock=some g→own≠some g):Lc w' base v l:=by
 refine World.ownsRow.kept h hg ?_;cases e:v.ownBlock with
 |none=>exact .inl rfl
 |some g=>exact .inr (λq=>hne g e q.symm)
theorem upd_grown{w W:World}{g:Nat}(hU:Upd w W g cs t):w.grownBy W (some g):=by
 have a:=hU.bel 0 w (Nat.zero_le _) zb;exact⟨a.os,a.tape,a.output,by rw[hU.size];exact zc,λk c b=>hU.oth k (λe=>b (by rw[e]))⟩
theorem bel_turned{w0 w w':World}{B:Nat}(h:Below B w0 w)(hg:w.grownBy w' own)(hs:B≤w.heap.size)(ho:∀k,own=some k→B≤k):Below B w0 w':=h.grown hg hs ho
def BookPost(w:World)(t:Tm)(l:List Ev)(e:Ending)(w':World):Prop:=∃p m cap xs bk at_ f,e=.returned (.tuple #[.agg #[.slice p m cap],zI at_,zI f])∧BookIs t l bk at_ f∧Sees w' p m xs bk∧m≤120∧zB w w'
theorem getD_mem{bk:List Cm}{j:Nat}(h:j<bk.length):bk.getD j cm0∈bk:=by
 have e:bk.getD j cm0=bk[j]:=by simp[List.getD,List.getElem?_eq_getElem h]
 rw[e];exact List.getElem_mem _
theorem sees_nil(w:World):Sees w none 0 [] []:=⟨⟨rfl,.inl rfl⟩,rfl,(λi a=>by cases a),(λi a=>by cases a),(λi a=>by cases a)⟩
structure Mid (w:World) (t:Tm) (pt:Option Addr) (lt ct:Nat) (l:List Ev) (g8 base k:Nat) (st:Nat→List Cm) (xs:List Cu) (pa:Option Addr) (pc:Nat) (wr:World):Prop where
 s0:st 0=[]
 steps:∀i,i<k→StepIs t (st i) (l.getD i ev0) (st (i+1)) 0
 small:Small (st k) k
 bt:Blk wr w.heap.size #[.slice pt lt ct,zI t.ff,zI t.fb,zI t.db,zI t.al] 24
 br:Blk wr (w.heap.size+1) #[zS] 65
 bb:Blk wr g8 #[.slice pa xs.length pc] 65
 hold:Holds wr base (.slice pa xs.length pc) xs (st k)
 bel:zB w wr
 sz:base≤wr.heap.size
theorem Mid.next{w:World}{t:Tm}{lt ct:Nat}{wr wr':World}(h:Mid w t pt lt ct l g8 base k st xs pa pc wr)(hb:zB wr wr'):Mid w t pt lt ct l g8 base k st xs pa pc wr':=⟨h.s0,h.steps,h.small,h.bt.next hb,h.br.next hb,h.bb.next hb,h.hold.next hb,h.bel.trans (hb.mono h.bel.size),Nat.le_trans h.sz hb.size⟩
theorem Mid.few{w:World}{t:Tm}{lt ct:Nat}{wr:World}(h:Mid w t pt lt ct l g8 base k st xs pa pc wr):xs.length≤k:=by rw[h.hold.len];exact h.small.1
theorem Mid.stop{w:World}{t:Tm}{lt ct:Nat}{g8 base k:Nat}{wr:World}(h:Mid w t pt lt ct l g8 base k st xs pa pc wr)(hT:TRight t)(hl:l.length≤120)(hk:k<l.length){x:List Cm}{f:Int}(hs:StepIs t (st k) (l.getD k ev0) x f)(hf:f≠0):BookIs t l [] (k:Int) f:=.inr (.inr ⟨hT,hl,k,st,h.s0,h.steps,.inr ⟨hk,⟨x,hs⟩,hf,rfl,rfl⟩⟩)
end book
namespace acc
open tar (Du du0 Came RowD Ld PairT)
open Go.RowKit
theorem prekey(g:Nat)(x:Ac)(p:Option Addr)(len cap:Nat)(w:World)(hw:Blk w g (wcs x bi0 p len cap) 132)(hd:deb.Fresh w (g+1) p len cap x.ds)(ha:AMay x):Calls Tryz.prog 63 #[.pointer (some ⟨g,0,none⟩)] w λe w'=>DPost w g (Or0 (RekeyIs x)) e w':=by
 have u:=ha.2.2.1;have j:=ha.2.2.2.1;have s:=zh ha;have q:Hid (Blk w g #[zI x.me,zI x.rv,zI x.nx,zI x.mo,zI x.bo,zI x.fr,.slice p len cap,zI 0,zI 0,zI 0,zI 0,zI 0,zI 0,zI 0] 132):=hw;have z:Hid (deb.Fresh w (g+1) p len cap x.ds):=hd;have C:=zy1 q;clear hw hd ha;by_cases m:x.rv<15
 ·have A:(x.rv==15)=false:=by simp;omega
  have B:IntKind.i64.wrap (x.rv+1)=x.rv+1:=by rw[IntKind.wrap_i64];omega
  have y:Hid (x.rv<15):=m;go_enter Tryz.func63,Tryz.ntmps63;go_wp2_with (first|(refine wp_let1 rfl 3 _ _ rfl g 1 rfl .i64 (x.rv+1) rfl (by kernel_rfl) #[zI x.me,zI x.rv,zI x.nx,zI x.mo,zI x.bo,zI x.fr,.slice p len cap,zI 0,zI 0,zI 0,zI 0,zI 0,zI 0,zI 0] 132 q.o (by simp) ?_)|fail)
  intro l n;have r:=zyb n;have f:Hid (Chg w l g):=.upd n;have h:=zh (fresh_chg z.o (.upd n));have t:Hid (zC 70 #[.pointer (some ⟨g,0,none⟩)] l λe w'=>NumPost l g ⟨x.me,x.rv+1,x.nx,x.mo,x.bo,x.fr,x.ds⟩ bi0 p len cap e w'):=pnum g ⟨x.me,x.rv+1,x.nx,x.mo,x.bo,x.fr,x.ds⟩ bi0 p len cap l r.o j;clear n C A m;go_wp2_with fail;refine t.o.mono ?_;rintro e D ⟨a,⟨k,rfl,d⟩|⟨k,rfl,d⟩⟩
  ·have i:Hid (Or0 (RekeyIs x) ⟨x.me,x.rv+1,x.nx,x.mo,x.bo,x.fr,x.ds⟩ bi0 20):=.inl ⟨by decide,.inr (.inr (.inl ⟨s.o,y.o,k,rfl,rfl,rfl⟩))⟩;have c:=fresh_chg h.o a;have b:=f.o.trans a;clear k;go_wp2_with fail;go_ret;exact⟨⟨x.me,x.rv+1,x.nx,x.mo,x.bo,x.fr,x.ds⟩,bi0,p,len,cap,20,rfl,i.o,d,c,b⟩
  ·have i:Hid (Or0 (RekeyIs x) ⟨x.me,x.rv+1,x.nx+1,x.mo,x.bo,x.fr,x.ds⟩ ⟨x.nx,0,0,0,0,0,0⟩ 0):=.inr ⟨rfl,.inr (.inr (.inr ⟨s.o,y.o,k,rfl,rfl,rfl⟩))⟩;have c:=fresh_chg h.o a;have b:=f.o.trans a;clear k;go_wp2_with fail;go_ret;exact⟨⟨x.me,x.rv+1,x.nx+1,x.mo,x.bo,x.fr,x.ds⟩,⟨x.nx,0,0,0,0,0,0⟩,p,len,cap,0,rfl,i.o,d,c,b⟩
 ·have A:(x.rv==15)=true:=by simp;omega
  have i:Hid (Or0 (RekeyIs x) x bi0 24):=.inl ⟨by decide,.inr (.inl ⟨s.o,m,rfl,rfl,rfl⟩)⟩;clear m u j;go_enter Tryz.func63,Tryz.ntmps63;go_wp2_with fail;go_ret;exact⟨x,bi0,p,len,cap,24,rfl,i.o,q.o,z.o,Chg.refl _ _⟩
theorem krekey:KcRekey:=by
 intro w x p len k U;unfold Ac.v Ac.cs;obtain⟨r,Q,B,D,C,m,a6⟩:=sh3 w #[zI x.me,zI x.rv,zI x.nx,zI x.mo,zI x.bo,zI x.fr,.slice p len k] 55 #[zI 0,zI 0,zI 0,zI 0,zI 0,zI 0,zS] 55 #[zI 0,zI 0,zI 0,zI 0,zI 0,zI 0,zI 0] 33;have n:=zh (U.ds.below m.o);go_enter Tryz.func31,Tryz.ntmps31;go_upto_region 1 with fail
 rw[Q.o]
 have P:Hid (zC 32 #[.agg #[zI x.me,zI x.rv,zI x.nx,zI x.mo,zI x.bo,zI x.fr,.slice p len k],.func (.func 63) #[] #[]] r λe w'=>BPost r (RekeyIs x) e w'):=by
  refine pwork 63 #[] (RekeyIs x) x p len k r n.o (λh=> .inl ⟨h,rfl,rfl,rfl⟩) (λ_ _=>by kernel_rfl) ?_;intro X W g p' f hB hg i S
  have O:deb.Fresh W (g+1) p' len f x.ds:=by
   obtain⟨a0,c0,hv,R⟩:=deb.ld_fresh S X.1;injection hv with h1 h2 h3
   rw[h1,h2,h3];exact R
  exact(prekey g x p' len f W i O X).mono λe w' h=>h.w (Nat.le_of_lt i.lt)
 clear U;go_wp2_with refine zw ?_;refine P.o.mono ?_;rintro e w1 ⟨b,l,A,z,u,T,rfl,V,hf,c⟩;obtain⟨F,a3,G⟩:=zn3 c B D C;have a2:=zh (n.o.below c);have E:=shB m c;have a1:=c.size;clear c;unfold Ac.v Ac.cs Bi.v;have j:=zh hf;have d:=zh (came_lt j.o.came);have HV:=zh V;clear hf V;go_wp2_with (first|refine zs ?_|refine zw ?_)
 intro W4 a;obtain⟨I,a4⟩:=zk2 a F G;have J:=zyb a;have q:Hid (deb.Fresh W4 r.heap.size A z u b.ds):=fresh_updN j.o a (λs y t=>by have f1:=j.o.new s y t;have f2:=d.o s y t;omega);have H:=zk a E;have Y:=a.size;clear a;go_wp2_with (first|refine zs ?_|refine zw ?_)
 intro W5 a;obtain⟨a5,N⟩:=zk2 a I J;have M:=zyb a;have L:Hid (deb.Fresh W5 r.heap.size A z u b.ds):=fresh_updN q.o a (λs y t=>by have f1:=q.o.new s y t;have f2:=d.o s y t;omega);have K:=zk a H;have Z:=a.size;clear a;go_wp2_with fail;exact zr (.tuple #[.agg #[zI b.me,zI b.rv,zI b.nx,zI b.mo,zI b.bo,zI b.fr,.slice A z u],.agg #[zI l.id,zI l.te,zI l.de,zI l.fe,zI l.pr,zI l.ch,zI l.un],zI T]) (by simp[results,Tryz.results31,scl7 N,scl7 M,go_sem]) ⟨b,l,A,z,u,T,rfl,HV.o,L.o.low (by omega),K.o⟩
end acc
namespace book
open Go.RowKit
def KOf:Prop:=∀(W:World)(t:acc.Tm)(pt:Option Addr)(lt ct:Nat)(pl:Option Addr)(n cap:Nat)(l:List Ev),acc.TCame W t pt lt ct→ECame W pl n cap l→zC 72 #[t.v pt lt ct,.slice pl n cap] W λe w'=>BookPost W t l e w'
end book
namespace words
open Go.RowKit
theorem Bg.parts{w:World}{z m:Nat}(h:Bg w z m):∃a n c,w.cell? ⟨z,0,none⟩=some (.bool false)∧w.cell? ⟨z,1,none⟩=some (.slice a n c)∧Ru w a n c (dig m):=by
 obtain⟨a,n,c,b,d⟩:=h;obtain⟨c0,c1,_,_⟩:=ob_cells b;exact⟨a,n,c,c0,c1,d⟩
def OpPost(w:World)(z r:Nat)(e:Ending)(w':World):Prop:=e=.returned (.pointer (some ⟨z,0,none⟩))∧Bg w' z r∧Ex w w' z
variable{w w1:World}
theorem cell_bel{p:Addr}{v:Value}(hb:zB w w1)(h:w.cell? p=some v):w1.cell? p=some v:=(hb.cell (World.block_lt_of_cell? w p h)).trans h
theorem cell_ex{z y i:Nat}{v:Value}(he:Ex w w1 z)(h:w.cell? ⟨y,i,none⟩=some v)(hne:y≠z):w1.cell? ⟨y,i,none⟩=some v:=
 (World.cell?_of_block (w:=w) (a:=⟨y,i,none⟩) (he.block y (World.block_lt_of_cell? w _ h) hne)).trans h
theorem neg_ex{z x:Nat}{v u:Value}(he:Ex w w1 z)(hz:w1.heap[z]?=some (.cells #[.bool false,u] 218 (0,0)))(h:w.cell? ⟨x,0,none⟩=some v)(hv:v=.bool false):w1.cell? ⟨x,0,none⟩=some (.bool false):=by
 subst hv;by_cases e:x=z
 ·subst e;exact(ob_cells hz).1
 ·exact cell_ex he h e
def SumGives(w:World)(m:Nat)(e:Ending)(w':World):Prop:=∃a n cap,e=.returned (.tuple #[.bool false,.slice a n cap])∧Ru w' a n cap (dig m)∧zB w w'
theorem SumGives.mk{w w':World}{m n cap:Nat}{a:Option Addr}(h1:Ru w' a n cap (dig m))(h2:zB w w'):SumGives w m (.returned (.tuple #[.bool false,.slice a n cap])) w':=⟨a,n,cap,rfl,h1,h2⟩
theorem sum_plus(a b:Option Addr)(n k ca cb:Nat)(la lb:List Nat)(w:World)(ha:Ru w a n ca la)(hb:Ru w b k cb lb)(hn:n≤100)(hk:k≤100):
  Calls Tryz.prog 139 #[.bool false,.slice a n ca,.bool false,.slice b k cb] w λe w'=>SumGives w (nv la+nv lb) e w':=by
 have l:(false==false)=true:=rfl;have d:Hid (zC 177 #[.slice a n ca,.slice b k cb] w λe w'=>Gives w (nv la+nv lb) e w'):=add_any a b n k ca cb la lb w ha hb hn hk;clear ha hb;go_enter Tryz.func139,Tryz.ntmps139;go_wp2_with fail;refine d.o.mono ?_;rintro e j ⟨g,i,h,rfl,c,hb⟩;have f:Hid (SumGives w (nv la+nv lb) (.returned (.tuple #[.bool false,.slice g i h])) j):=SumGives.mk c hb;clear c hb;go_wp2_with fail;go_ret2;exact f.o
theorem Mul_any(z x y m k:Nat)(w:World)(hx:Bg w x m)(hy:Bg w y k)(hz:Ob w z)(hyz:y≠z)(hm:(dig m).length≤100)(hk:(dig k).length≤100):
  Calls Tryz.prog 93 #[.pointer (some ⟨z,0,none⟩),.pointer (some ⟨x,0,none⟩),.pointer (some ⟨y,0,none⟩)] w λe w'=>OpPost w z (m*k) e w':=by
 obtain⟨G,I,H,R,U,u⟩:=hx.parts;obtain⟨h,l,j,T,y1,A⟩:=hy.parts;have N:(false != false)=false:=rfl
 have J:Hid (∀w',zB w w'→zC 138 #[.slice G I H,.slice h l j] w' λe t=>Gives w' (m*k) e t):=λw' f=>by
  have:=mul_any G h I l H j _ _ w' (u.below f) (A.below f) (by rw[← u.len];exact hm) (by rw[← A.len];exact hk)
  rwa [nv_dig,nv_dig] at this
 have C:Hid (Ob w z):=hz;have E:Hid (zB w w.drew):=(Below.refl _ w).drew;have n:Hid (w.drew.cell? ⟨x,0,none⟩=some (.bool false)∧w.drew.cell? ⟨y,0,none⟩=some (.bool false)∧w.drew.cell? ⟨y,1,none⟩=some (.slice h l j)):=⟨R,T,y1⟩
 clear hx hy hz u A hm hk;go_enter Tryz.func93,Tryz.ntmps93;go_wp2_with fail;refine wp_region_held_drew (S:=λg=>g.cell? ⟨x,0,none⟩=some (.bool false)∧g.cell? ⟨y,0,none⟩=some (.bool false)∧g.cell? ⟨y,1,none⟩=some (.slice h l j)) (by kernel_rfl) n.o ?_;intro M;refine wpAnyH_take (i:=0) (v:=?v1) rfl (by kernel_rfl) (by kernel_rfl) (by kernel_rfl) zid (Or.inl ⟨by rfl,?y1⟩) (by assumption) ?_
 case y1=>(intro w a;(try dsimp only at a);go_simp;try (with_reducible rfl))
 try simp only[Act.put]
 try simp only[List.setIfInBounds_toArray]
 try simp only[List.set_cons_succ]
 try simp only[List.set_cons_zero]
 refine wpAnyH_take (i:=1) (v:=?v2) rfl (by kernel_rfl) (by kernel_rfl) (by kernel_rfl) zid (Or.inl ⟨by rfl,?y2⟩) (by assumption) ?_
 case y2=>(intro w a;(try dsimp only at a);go_simp;try (with_reducible rfl))
 try simp only[Act.put]
 try simp only[List.setIfInBounds_toArray]
 try simp only[List.set_cons_succ]
 try simp only[List.set_cons_zero]
 refine wpAnyH_take (i:=2) (v:=?v3) rfl (by kernel_rfl) (by kernel_rfl) (by kernel_rfl) zid (Or.inl ⟨by rfl,?y3⟩) (by assumption) ?_
 case y3=>(intro w a;(try dsimp only at a);go_simp;try (with_reducible rfl))
 try simp only[Act.put]
 try simp only[List.setIfInBounds_toArray]
 try simp only[List.set_cons_succ]
 try simp only[List.set_cons_zero]
 refine wpAnyH_take (i:=3) (v:=?v4) rfl (by kernel_rfl) (by kernel_rfl) (by kernel_rfl) zid (Or.inl ⟨by rfl,?y4⟩) (by assumption) ?_
 case y4=>(intro w a;(try dsimp only at a);go_simp;try (with_reducible rfl))
 try simp only[Act.put]
 try simp only[List.setIfInBounds_toArray]
 try simp only[List.set_cons_succ]
 try simp only[List.set_cons_zero]
 refine wpAnyH_take (i:=4) (v:=?v5) rfl (by kernel_rfl) (by kernel_rfl) (by kernel_rfl) zid (Or.inl ⟨by rfl,?y5⟩) (by assumption) ?_
 case y5=>(intro w a;(try dsimp only at a);go_simp;try (with_reducible rfl))
 try simp only[Act.put]
 try simp only[List.setIfInBounds_toArray]
 try simp only[List.set_cons_succ]
 try simp only[List.set_cons_zero]
 refine wpAnyH_take (i:=5) (v:=?v6) rfl (by kernel_rfl) (by kernel_rfl) (by kernel_rfl) zid (Or.inl ⟨by rfl,?y6⟩) (by assumption) ?_
 case y6=>(intro w a;(try dsimp only at a);go_simp;try (with_reducible rfl))
 try simp only[Act.put]
 try simp only[List.setIfInBounds_toArray]
 try simp only[List.set_cons_succ]
 try simp only[List.set_cons_zero]
 refine wpAnyH_take (i:=6) (v:=?v7) rfl (by kernel_rfl) (by kernel_rfl) (by kernel_rfl) zid (Or.inl ⟨by rfl,?y7⟩) (by assumption) ?_
 case y7=>(intro w a;(try dsimp only at a);go_simp;try (with_reducible rfl))
 try simp only[Act.put]
 try simp only[List.setIfInBounds_toArray]
 try simp only[List.set_cons_succ]
 try simp only[List.set_cons_zero]
 refine wpAnyH_take (i:=7) (v:=?v8) rfl (by kernel_rfl) (by kernel_rfl) (by kernel_rfl) zid (Or.inl ⟨by rfl,?y8⟩) (by assumption) ?_
 case y8=>(intro w a;(try dsimp only at a);go_simp;try (with_reducible rfl))
 try simp only[Act.put]
 try simp only[List.setIfInBounds_toArray]
 try simp only[List.set_cons_succ]
 try simp only[List.set_cons_zero]
 refine wpAnyH_take (i:=8) (v:=?v9) rfl (by kernel_rfl) (by kernel_rfl) (by kernel_rfl) zid (Or.inl ⟨by rfl,?y9⟩) (by assumption) ?_
 case y9=>(intro w a;(try dsimp only at a);go_simp;try (with_reducible rfl))
 try simp only[Act.put]
 try simp only[List.setIfInBounds_toArray]
 try simp only[List.set_cons_succ]
 try simp only[List.set_cons_zero]
 refine wpAnyH_take (i:=9) (v:=?v10) rfl (by kernel_rfl) (by kernel_rfl) (by kernel_rfl) zid (Or.inl ⟨by rfl,?y10⟩) (by assumption) ?_
 case y10=>(intro w a;(try dsimp only at a);go_simp;try (with_reducible rfl))
 try simp only[Act.put]
 try simp only[List.setIfInBounds_toArray]
 try simp only[List.set_cons_succ]
 try simp only[List.set_cons_zero]
 refine wpAnyH_take (i:=10) (v:=?v11) rfl (by kernel_rfl) (by kernel_rfl) (by kernel_rfl) zid (Or.inl ⟨by rfl,?y11⟩) (by assumption) ?_
 case y11=>(intro w a;(try dsimp only at a);go_simp;try (with_reducible rfl))
 try simp only[Act.put]
 try simp only[List.setIfInBounds_toArray]
 try simp only[List.set_cons_succ]
 try simp only[List.set_cons_zero]
 refine wpAnyH_take (i:=11) (v:=?v12) rfl (by kernel_rfl) (by kernel_rfl) (by kernel_rfl) zid (Or.inl ⟨by rfl,?y12⟩) (by assumption) ?_
 case y12=>(intro w a;(try dsimp only at a);go_simp;try (with_reducible rfl))
 try simp only[Act.put]
 try simp only[List.setIfInBounds_toArray]
 try simp only[List.set_cons_succ]
 try simp only[List.set_cons_zero]
 refine wpAnyH_take (i:=12) (v:=?v13) rfl (by kernel_rfl) (by kernel_rfl) (by kernel_rfl) zid (Or.inl ⟨by rfl,?y13⟩) (by assumption) ?_
 case y13=>(intro w a;(try dsimp only at a);go_simp;try (with_reducible rfl))
 try simp only[Act.put]
 try simp only[List.setIfInBounds_toArray]
 try simp only[List.set_cons_succ]
 try simp only[List.set_cons_zero]
 refine wpAnyH_take (i:=14) (v:=?v14) rfl (by kernel_rfl) (by kernel_rfl) (by kernel_rfl) zid (Or.inl ⟨by rfl,?y14⟩) (by assumption) ?_
 case y14=>(intro w a;(try dsimp only at a);go_simp;try (with_reducible rfl))
 try simp only[Act.put]
 try simp only[List.setIfInBounds_toArray]
 try simp only[List.set_cons_succ]
 try simp only[List.set_cons_zero]
 refine wpAnyH_take (i:=15) (v:=?v15) rfl (by kernel_rfl) (by kernel_rfl) (by kernel_rfl) zid (Or.inl ⟨by rfl,?y15⟩) (by assumption) ?_
 case y15=>(intro w a;(try dsimp only at a);go_simp;try (with_reducible rfl))
 try simp only[Act.put]
 try simp only[List.setIfInBounds_toArray]
 try simp only[List.set_cons_succ]
 try simp only[List.set_cons_zero]
 refine wpAnyH_take (i:=16) (v:=?v16) rfl (by kernel_rfl) (by kernel_rfl) (by kernel_rfl) zid (Or.inl ⟨by rfl,?y16⟩) (by assumption) ?_
 case y16=>(intro w a;(try dsimp only at a);go_simp;try (with_reducible rfl))
 try simp only[Act.put]
 try simp only[List.setIfInBounds_toArray]
 try simp only[List.set_cons_succ]
 try simp only[List.set_cons_zero]
 refine wpAnyH_take (i:=17) (v:=?v17) rfl (by kernel_rfl) (by kernel_rfl) (by kernel_rfl) zid (Or.inl ⟨by rfl,?y17⟩) (by assumption) ?_
 case y17=>(intro w a;(try dsimp only at a);go_simp;try (with_reducible rfl))
 try simp only[Act.put]
 try simp only[List.setIfInBounds_toArray]
 try simp only[List.set_cons_succ]
 try simp only[List.set_cons_zero]
 refine wpAnyH_ready (rs:=[13]) (by kernel_rfl) (by simp) ?_;refine AllReadyH.cons rfl (λK d=>?_) AllReadyH.nil;go_simp;refine d.o _ _ n.o (λb=>?_);clear d K;refine wpAnyH_ready (rs:=[18]) (by kernel_rfl) (by simp) ?_;refine AllReadyH.cons rfl (λK d=>?_) AllReadyH.nil;go_simp;go_wp2_with fail;refine(J.o _ E.o).mono ?_;rintro e g ⟨O,Q,P,rfl,F,f⟩;have r:=shB E f;have q:Hid (g.cell? ⟨x,0,none⟩=some (.bool false)∧g.cell? ⟨y,0,none⟩=some (.bool false)∧g.cell? ⟨y,1,none⟩=some (.slice h l j)):=⟨cell_bel f n.o.1,cell_bel f n.o.2.1,cell_bel f n.o.2.2⟩
 have L:Hid (Ru g O Q P (dig (m*k))):=F;clear f F
 try go_simp
 refine d.o _ _ q.o (λb=>?_);clear d K;refine wpAnyH_ready (rs:=[19]) (by kernel_rfl) (by simp) ?_;refine AllReadyH.cons rfl (λK d=>?_) AllReadyH.nil;go_simp;go_wp2_with fail;refine(give_any z _ _ _ _ (C.o.below r.o)).mono ?_;rintro e p ⟨rfl,s,c⟩;have D:Hid (p.cell? ⟨x,0,none⟩=some (.bool false)∧p.cell? ⟨y,0,none⟩=some (.bool false)∧p.cell? ⟨y,1,none⟩=some (.slice h l j)):=⟨neg_ex c s q.o.1 rfl,cell_ex c q.o.2.1 hyz,cell_ex c q.o.2.2 hyz⟩
 have B:Hid (Bg p z (m*k)∧Ex w p z):=⟨⟨_,_,_,s,L.o.ex (C.o.below r.o) c⟩,Ex.of r.o c⟩
 clear s c
 try go_simp
 refine d.o _ _ D.o (λb=>?_);clear d K;refine wpAnyH_ready (rs:=[20]) (by kernel_rfl) (by simp) ?_;refine AllReadyH.cons rfl (λK d=>?_) AllReadyH.nil;go_simp;refine d.o _ _ D.o (λb=>?_);clear d K;refine wpAnyH_done (by kernel_rfl) ?_ _;go_wp2_with fail;go_ret;exact⟨rfl,B.o.1,B.o.2⟩
theorem Add_any(z x y m k:Nat)(w:World)(hx:Bg w x m)(hy:Bg w y k)(hz:Ob w z)(hyz:y≠z)(hm:(dig m).length≤100)(hk:(dig k).length≤100):
  Calls Tryz.prog 94 #[.pointer (some ⟨z,0,none⟩),.pointer (some ⟨x,0,none⟩),.pointer (some ⟨y,0,none⟩)] w λe w'=>OpPost w z (m+k) e w':=by
 obtain⟨G,I,H,R,V,u⟩:=hx.parts;obtain⟨h,l,j,T,U,A⟩:=hy.parts;have N:(false != false)=false:=rfl
 have J:Hid (∀w',zB w w'→zC 139 #[.bool false,.slice G I H,.bool false,.slice h l j] w' λe t=>SumGives w' (m+k) e t):=λw' f=>by
  have:=sum_plus G h I l H j _ _ w' (u.below f) (A.below f) (by rw[← u.len];exact hm) (by rw[← A.len];exact hk)
  rwa [nv_dig,nv_dig] at this
 have C:Hid (Ob w z):=hz;have E:Hid (zB w w.drew):=(Below.refl _ w).drew;have n:Hid (w.drew.cell? ⟨x,0,none⟩=some (.bool false)∧w.drew.cell? ⟨y,0,none⟩=some (.bool false)∧w.drew.cell? ⟨y,1,none⟩=some (.slice h l j)):=⟨R,T,U⟩
 clear hx hy hz u A hm hk;go_enter Tryz.func94,Tryz.ntmps94;go_wp2_with fail;refine wp_region_held_drew (S:=λg=>g.cell? ⟨x,0,none⟩=some (.bool false)∧g.cell? ⟨y,0,none⟩=some (.bool false)∧g.cell? ⟨y,1,none⟩=some (.slice h l j)) (by kernel_rfl) n.o ?_;intro M;refine wpAnyH_take (i:=0) (v:=?v18) rfl (by kernel_rfl) (by kernel_rfl) (by kernel_rfl) zid (Or.inl ⟨by rfl,?y18⟩) (by assumption) ?_
 case y18=>(intro w a;(try dsimp only at a);go_simp;try (with_reducible rfl))
 try simp only[Act.put]
 try simp only[List.setIfInBounds_toArray]
 try simp only[List.set_cons_succ]
 try simp only[List.set_cons_zero]
 refine wpAnyH_take (i:=1) (v:=?v19) rfl (by kernel_rfl) (by kernel_rfl) (by kernel_rfl) zid (Or.inl ⟨by rfl,?y19⟩) (by assumption) ?_
 case y19=>(intro w a;(try dsimp only at a);go_simp;try (with_reducible rfl))
 try simp only[Act.put]
 try simp only[List.setIfInBounds_toArray]
 try simp only[List.set_cons_succ]
 try simp only[List.set_cons_zero]
 refine wpAnyH_take (i:=2) (v:=?v20) rfl (by kernel_rfl) (by kernel_rfl) (by kernel_rfl) zid (Or.inl ⟨by rfl,?y20⟩) (by assumption) ?_
 case y20=>(intro w a;(try dsimp only at a);go_simp;try (with_reducible rfl))
 try simp only[Act.put]
 try simp only[List.setIfInBounds_toArray]
 try simp only[List.set_cons_succ]
 try simp only[List.set_cons_zero]
 refine wpAnyH_take (i:=3) (v:=?v21) rfl (by kernel_rfl) (by kernel_rfl) (by kernel_rfl) zid (Or.inl ⟨by rfl,?y21⟩) (by assumption) ?_
 case y21=>(intro w a;(try dsimp only at a);go_simp;try (with_reducible rfl))
 try simp only[Act.put]
 try simp only[List.setIfInBounds_toArray]
 try simp only[List.set_cons_succ]
 try simp only[List.set_cons_zero]
 refine wpAnyH_take (i:=4) (v:=?v22) rfl (by kernel_rfl) (by kernel_rfl) (by kernel_rfl) zid (Or.inl ⟨by rfl,?y22⟩) (by assumption) ?_
 case y22=>(intro w a;(try dsimp only at a);go_simp;try (with_reducible rfl))
 try simp only[Act.put]
 try simp only[List.setIfInBounds_toArray]
 try simp only[List.set_cons_succ]
 try simp only[List.set_cons_zero]
 refine wpAnyH_take (i:=5) (v:=?v23) rfl (by kernel_rfl) (by kernel_rfl) (by kernel_rfl) zid (Or.inl ⟨by rfl,?y23⟩) (by assumption) ?_
 case y23=>(intro w a;(try dsimp only at a);go_simp;try (with_reducible rfl))
 try simp only[Act.put]
 try simp only[List.setIfInBounds_toArray]
 try simp only[List.set_cons_succ]
 try simp only[List.set_cons_zero]
 refine wpAnyH_take (i:=6) (v:=?v24) rfl (by kernel_rfl) (by kernel_rfl) (by kernel_rfl) zid (Or.inl ⟨by rfl,?y24⟩) (by assumption) ?_
 case y24=>(intro w a;(try dsimp only at a);go_simp;try (with_reducible rfl))
 try simp only[Act.put]
 try simp only[List.setIfInBounds_toArray]
 try simp only[List.set_cons_succ]
 try simp only[List.set_cons_zero]
 refine wpAnyH_take (i:=7) (v:=?v25) rfl (by kernel_rfl) (by kernel_rfl) (by kernel_rfl) zid (Or.inl ⟨by rfl,?y25⟩) (by assumption) ?_
 case y25=>(intro w a;(try dsimp only at a);go_simp;try (with_reducible rfl))
 try simp only[Act.put]
 try simp only[List.setIfInBounds_toArray]
 try simp only[List.set_cons_succ]
 try simp only[List.set_cons_zero]
 refine wpAnyH_take (i:=9) (v:=?v26) rfl (by kernel_rfl) (by kernel_rfl) (by kernel_rfl) zid (Or.inl ⟨by rfl,?y26⟩) (by assumption) ?_
 case y26=>(intro w a;(try dsimp only at a);go_simp;try (with_reducible rfl))
 try simp only[Act.put]
 try simp only[List.setIfInBounds_toArray]
 try simp only[List.set_cons_succ]
 try simp only[List.set_cons_zero]
 refine wpAnyH_take (i:=10) (v:=?v27) rfl (by kernel_rfl) (by kernel_rfl) (by kernel_rfl) zid (Or.inl ⟨by rfl,?y27⟩) (by assumption) ?_
 case y27=>(intro w a;(try dsimp only at a);go_simp;try (with_reducible rfl))
 try simp only[Act.put]
 try simp only[List.setIfInBounds_toArray]
 try simp only[List.set_cons_succ]
 try simp only[List.set_cons_zero]
 refine wpAnyH_take (i:=11) (v:=?v28) rfl (by kernel_rfl) (by kernel_rfl) (by kernel_rfl) zid (Or.inl ⟨by rfl,?y28⟩) (by assumption) ?_
 case y28=>(intro w a;(try dsimp only at a);go_simp;try (with_reducible rfl))
 try simp only[Act.put]
 try simp only[List.setIfInBounds_toArray]
 try simp only[List.set_cons_succ]
 try simp only[List.set_cons_zero]
 refine wpAnyH_take (i:=12) (v:=?v29) rfl (by kernel_rfl) (by kernel_rfl) (by kernel_rfl) zid (Or.inl ⟨by rfl,?y29⟩) (by assumption) ?_
 case y29=>(intro w a;(try dsimp only at a);go_simp;try (with_reducible rfl))
 try simp only[Act.put]
 try simp only[List.setIfInBounds_toArray]
 try simp only[List.set_cons_succ]
 try simp only[List.set_cons_zero]
 refine wpAnyH_take (i:=13) (v:=?v30) rfl (by kernel_rfl) (by kernel_rfl) (by kernel_rfl) zid (Or.inl ⟨by rfl,?y30⟩) (by assumption) ?_
 case y30=>(intro w a;(try dsimp only at a);go_simp;try (with_reducible rfl))
 try simp only[Act.put]
 try simp only[List.setIfInBounds_toArray]
 try simp only[List.set_cons_succ]
 try simp only[List.set_cons_zero]
 refine wpAnyH_take (i:=14) (v:=?v31) rfl (by kernel_rfl) (by kernel_rfl) (by kernel_rfl) zid (Or.inl ⟨by rfl,?y31⟩) (by assumption) ?_
 case y31=>(intro w a;(try dsimp only at a);go_simp;try (with_reducible rfl))
 try simp only[Act.put]
 try simp only[List.setIfInBounds_toArray]
 try simp only[List.set_cons_succ]
 try simp only[List.set_cons_zero]
 refine wpAnyH_take (i:=15) (v:=?v32) rfl (by kernel_rfl) (by kernel_rfl) (by kernel_rfl) zid (Or.inl ⟨by rfl,?y32⟩) (by assumption) ?_
 case y32=>(intro w a;(try dsimp only at a);go_simp;try (with_reducible rfl))
 try simp only[Act.put]
 try simp only[List.setIfInBounds_toArray]
 try simp only[List.set_cons_succ]
 try simp only[List.set_cons_zero]
 refine wpAnyH_take (i:=16) (v:=?v33) rfl (by kernel_rfl) (by kernel_rfl) (by kernel_rfl) zid (Or.inl ⟨by rfl,?y33⟩) (by assumption) ?_
 case y33=>(intro w a;(try dsimp only at a);go_simp;try (with_reducible rfl))
 try simp only[Act.put]
 try simp only[List.setIfInBounds_toArray]
 try simp only[List.set_cons_succ]
 try simp only[List.set_cons_zero]
 refine wpAnyH_ready (rs:=[8]) (by kernel_rfl) (by simp) ?_;refine AllReadyH.cons rfl (λK d=>?_) AllReadyH.nil;go_simp;refine d.o _ _ n.o (λb=>?_);clear d K;refine wpAnyH_ready (rs:=[17]) (by kernel_rfl) (by simp) ?_;refine AllReadyH.cons rfl (λK d=>?_) AllReadyH.nil;go_simp;go_wp2_with fail;refine(J.o _ E.o).mono ?_;rintro e g ⟨O,Q,P,rfl,F,f⟩;have r:=shB E f;have q:Hid (g.cell? ⟨x,0,none⟩=some (.bool false)∧g.cell? ⟨y,0,none⟩=some (.bool false)∧g.cell? ⟨y,1,none⟩=some (.slice h l j)):=⟨cell_bel f n.o.1,cell_bel f n.o.2.1,cell_bel f n.o.2.2⟩
 have L:Hid (Ru g O Q P (dig (m+k))):=F;clear f F
 try go_simp
 refine d.o _ _ q.o (λb=>?_);clear d K;refine wpAnyH_take (i:=18) (v:=?v34) rfl (by kernel_rfl) (by kernel_rfl) (by kernel_rfl) zid (Or.inl ⟨by rfl,?y34⟩) (by assumption) ?_
 case y34=>(intro w a;(try dsimp only at a);go_simp;try (with_reducible rfl))
 try simp only[Act.put]
 try simp only[List.setIfInBounds_toArray]
 try simp only[List.set_cons_succ]
 try simp only[List.set_cons_zero]
 refine wpAnyH_take (i:=19) (v:=?v35) rfl (by kernel_rfl) (by kernel_rfl) (by kernel_rfl) zid (Or.inl ⟨by rfl,?y35⟩) (by assumption) ?_
 case y35=>(intro w a;(try dsimp only at a);go_simp;try (with_reducible rfl))
 try simp only[Act.put]
 try simp only[List.setIfInBounds_toArray]
 try simp only[List.set_cons_succ]
 try simp only[List.set_cons_zero]
 refine wpAnyH_ready (rs:=[20]) (by kernel_rfl) (by simp) ?_;refine AllReadyH.cons rfl (λK d=>?_) AllReadyH.nil;go_simp;go_wp2_with fail;refine(give_any z _ _ _ _ (C.o.below r.o)).mono ?_;rintro e p ⟨rfl,s,c⟩;have D:Hid (p.cell? ⟨x,0,none⟩=some (.bool false)∧p.cell? ⟨y,0,none⟩=some (.bool false)∧p.cell? ⟨y,1,none⟩=some (.slice h l j)):=⟨neg_ex c s q.o.1 rfl,cell_ex c q.o.2.1 hyz,cell_ex c q.o.2.2 hyz⟩
 have B:Hid (Bg p z (m+k)∧Ex w p z):=⟨⟨_,_,_,s,L.o.ex (C.o.below r.o) c⟩,Ex.of r.o c⟩
 clear s c
 try go_simp
 refine d.o _ _ D.o (λb=>?_);clear d K;refine wpAnyH_ready (rs:=[21]) (by kernel_rfl) (by simp) ?_;refine AllReadyH.cons rfl (λK d=>?_) AllReadyH.nil;go_simp;refine d.o _ _ D.o (λb=>?_);clear d K;refine wpAnyH_done (by kernel_rfl) ?_ _;go_wp2_with fail;go_ret;exact⟨rfl,B.o.1,B.o.2⟩
theorem len100{m:Nat}(h:m<4294967296^8):(dig m).length≤100:=by
 have:=dig_len 8 h;omega
theorem nf_lt{f:Nat→Nat}:∀{n:Nat},(∀i,i<n→f i<4294967296)→nf f n<4294967296^n
 |0,_=>by simp[nf]
 |n+1,h=>by
  have h1:=nf_lt (f:=f) (n:=n) λi b=>h i (by omega);have a:=h n (by omega);rw[nf,Nat.pow_succ];have:4294967296^n*(f n+1)≤4294967296^n*4294967296:=Nat.mul_le_mul_left _ (by omega);rw[Nat.mul_add] at this;omega
theorem dig_nf(m:Nat):nf (λi=>(dig m).getD i 0) (dig m).length=m:=by rw[← nv_nf,nv_dig]
theorem dig_word(m i:Nat):(dig m).getD i 0<4294967296:=by
 by_cases a:i<(dig m).length
 ·exact dig_lt m _ (by simp[List.getD,List.getElem?_eq_getElem a])
 ·simp[List.getD,List.getElem?_eq_none (show (dig m).length≤i by omega)]
theorem dig_low(m:Nat):m<4294967296^(dig m).length:=by
 have:=nf_lt (f:=λi=>(dig m).getD i 0) (n:=(dig m).length) λi _=>dig_word m i
 rwa [dig_nf] at this
theorem dig_high:∀(m k:Nat),(dig m).length=k+1→4294967296^k≤m:=by
 intro m k
 induction k generalizing m with
 |zero=>
  intro h;have:m≠0:=by intro e;rw[e,dig_zero] at h;simp at h
  simp;omega
 |succ k ih=>
  intro h;have a:m≠0:=by intro e;rw[e,dig_zero] at h;simp at h
  rw[dig_pos a] at h;have:=ih (m/4294967296) (by simpa using h);rw[Nat.pow_succ];have b:=Nat.mul_le_mul_right 4294967296 this;omega
theorem len_less{m k:Nat}(h:(dig m).length<(dig k).length):m<k:=by
 have a:=dig_low m;have b:=dig_high k ((dig k).length-1) (by omega);have c:4294967296^(dig m).length≤4294967296^((dig k).length-1):=Nat.pow_le_pow_right (by decide) (by omega);omega
end words
end Go.Proofs.YtoepgdhiepedeaaGreatDoor
