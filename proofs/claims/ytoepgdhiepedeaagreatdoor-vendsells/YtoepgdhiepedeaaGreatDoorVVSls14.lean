import Derived.Test.YtoepgdhiepedeaaGreatDoorVVSls8
import Derived.Test.YtoepgdhiepedeaaGreatDoorVVSls9
set_option linter.unusedVariables false
set_option linter.unusedSimpArgs false
set_option maxHeartbeats 4000000
set_option maxRecDepth 100000
namespace Go.Proofs.YtoepgdhiepedeaaGreatDoor
namespace acc
open tar (Du du0 Came RowD Ld PairT)
open Go.RowKit
theorem rcopyL(x:Ac)(p:Option Addr)(len cap:Nat)(w:World)(h:RowD w p len x.ds)(hm:deb.Mays x.ds):Calls Tryz.prog 51 #[.agg #[zI x.me,zI x.rv,zI x.nx,zI x.mo,zI x.bo,zI x.fr,.slice p len cap]] w λe w'=>∃p' cap',e=.returned (Ac.v x p' len cap')∧deb.Fresh w' w.heap.size p' len cap' x.ds∧Ld 42 w' w.heap.size (.slice p' len cap') x.ds∧zB w w':=by
 have l:=h.1;have a8:len≤8:=by have:=hm.1;omega
 obtain⟨g,a2,I,J,y,a9⟩:=sh2 w #[zI x.me,zI x.rv,zI x.nx,zI x.mo,zI x.bo,zI x.fr,.slice p len cap] 55 #[zI 0,zI 0,zI 0,zI 0,zI 0,zI 0,zS] 55;have A:=zh (h.below y.o);have HM:=zh hm;have d:=zh l;clear h hm l;go_enter Tryz.func51,Tryz.ntmps51;go_upto_region 1 with fail
 rw[a2.o];go_wp2_with fail;go_loopw [3,4] (λu z wr=>∃(k:Nat)(V:Value),k≤len∧z=zI (k:Int)∧V=u∧Ld 42 wr g.heap.size V (x.ds.take k)∧zB g wr) (λ_ z _=>len-(intOf z).toNat)
 case atStart=>exact⟨0,_,Nat.zero_le _,rfl,rfl,tar.Ld.zero _ _ _,zb⟩
 case round=>
  obtain⟨k,V,hk,rfl,hV,t,j⟩:=hrel;subst hV;have T:=zh j;have HU:=zh t;have X:=zh (I.o.below j (by omega));have Y:=zh (J.o.below j (by omega));have c6:=zy6 X;by_cases s:k<len
  ·have a3:decide ((k:Int)<(len:Int))=true:=by simp;omega
   have E:k<x.ds.length:=by rw[d.o];exact s
   obtain⟨b,i,rfl,C,hc⟩:=A.o.at (by omega);have c0:wr.cell? ⟨b,i+k*2,none⟩=some (zI (x.ds.getD k du0).a):=(j.cell (p:=⟨b,i+k*2,none⟩) C).trans (hc k s).1;have c1:wr.cell? ⟨b,i+k*2+1,none⟩=some (zI (x.ds.getD k du0).b):=(j.cell (p:=⟨b,i+k*2+1,none⟩) C).trans (hc k s).2;have a1:Hid (x.ds.take (k+1)=x.ds.take k++[⟨(x.ds.getD k du0).a,(x.ds.getD k du0).b⟩]):=tar.take_one x.ds k E;have a5:(x.ds.take k).length≤1000000:=by rw[List.length_take];omega
   clear hc j t E;generalize x.ds.take k=Z at *;generalize (x.ds.getD k du0).a=n at *;generalize (x.ds.getD k du0).b=q at *;have m:=zyf T (.cells #[zI n,zI q] 42);have B:Hid (Ld 42 (wr.alloc (.cells #[zI n,zI q] 42)) g.heap.size V Z):=HU.o.alloc _;have U:Hid ((wr.alloc (.cells #[zI n,zI q] 42)).cell? ⟨wr.heap.size,0,none⟩=some (zI n)∧(wr.alloc (.cells #[zI n,zI q] 42)).cell? ⟨wr.heap.size,1,none⟩=some (zI q)):=⟨(Blk.new wr _ _).cell 0,(Blk.new wr _ _).cell 1⟩
   go_wp2_with (first
    |(at_builtin;refine tar.wp_pair deb.debtT rfl _ _ rfl g.heap.size wr.heap.size V Z ⟨n,q⟩ rfl rfl B.o U.o a5 m.o.size ?_)
    | fail)
   intro v3 w3 h3 D;have R:Hid (zB g w3):=tar.own_bel B.o D m.o zc m.o.size;have H3:Hid (Ld 42 w3 g.heap.size v3 (Z++[⟨n,q⟩])):=h3;clear h3 D c0 c1 c6;go_wp2_with fail;go_roundw
   case rel=>exact⟨k+1,v3,by omega,by go_num,by first|rfl|trivial,by rw[a1.o];exact H3.o,R.o⟩
   case measure=>simp[intOf];omega
  ·obtain rfl:len=k:=by omega
   have a3:decide ((len:Int)<(len:Int))=false:=by simp
   have F:x.ds.take len=x.ds:=List.take_of_length_le (by rw[d.o];exact zc);rw[F] at t;obtain⟨H,c,a4,r⟩:=deb.ld_fresh t HM.o;subst a4;rw[d.o] at r ⊢;have W:=zh r;have a0:Hid (Ld 42 wr g.heap.size (.slice H len c) x.ds):=by have G:=t;rw[d.o] at G;exact G
   have S:=zh (y.o.trans (j.mono (by omega)));clear j t r F;go_wp2_with refine zm ?_;intro W3 f;have a6:=zyb f;have a7:=zk1 f Y;have K:=zk f S;have L:=zh (fresh_upd W.o f (by omega));have M:=zh (ld_upd a0.o f (by omega));clear f c6;go_wp2_with (first|refine zw ?_|refine zs ?_)
   intro WF f;have Q:=zyb f;have N:=zk f K;have O:Hid (deb.Fresh WF w.heap.size H len c x.ds):=(fresh_upd L.o f (by omega)).low (by omega);have P:Hid (Ld 42 WF w.heap.size (.slice H len c) x.ds):=(ld_upd M.o f (by omega)).low (by omega);clear f;go_wp2_with fail;exact zr (.agg #[zI x.me,zI x.rv,zI x.nx,zI x.mo,zI x.bo,zI x.fr,.slice H len c]) (by simp[results,Tryz.results51,scl7 Q,go_sem]) ⟨H,c,rfl,O.o,P.o,N.o⟩
theorem rcopy(x:Ac)(p:Option Addr)(len cap:Nat)(w:World)(h:RowD w p len x.ds)(hm:deb.Mays x.ds):Calls Tryz.prog 51 #[.agg #[zI x.me,zI x.rv,zI x.nx,zI x.mo,zI x.bo,zI x.fr,.slice p len cap]] w λe w'=>∃p' cap',e=.returned (Ac.v x p' len cap')∧deb.Fresh w' w.heap.size p' len cap' x.ds∧zB w w':=
 (rcopyL x p len cap w h hm).mono λe w' c=>by
  obtain⟨p',cap',b,hf,_,a⟩:=c;exact⟨p',cap',b,hf,a⟩
end acc
namespace ora
open Go.RowKit
theorem of_any(m r b t:Int)(w:World):
  Calls Tryz.prog 116 #[.agg #[zI m,zI r,zI b,zI t]] w λe w'=>e=.returned (.agg #[zI m,zI r,zI b])∧zB w w':=by
 have c:=(Blk.new w #[zI m,zI r,zI b,zI t] 87).alloc (.cells #[zI 0,zI 0,zI 0] 183);have c0:=c.cell 0;have c1:=c.cell 1;have c2:=c.cell 2;have f:=Blk.new1 w (.cells #[zI m,zI r,zI b,zI t] 87) #[zI 0,zI 0,zI 0] 183;have h:=zh f;have g:Hid (zB w ((w.alloc (.cells #[zI m,zI r,zI b,zI t] 87)).alloc (.cells #[zI 0,zI 0,zI 0] 183))):=(zb.alloc zc _).alloc (by simp) _;clear c f;go_enter Tryz.func116,Tryz.ntmps116
 go_wp2_with (first
  |(refine wp_letAll rfl 183 _ _ rfl (w.heap.size+1) rfl _ rfl (by kernel_rfl) (by simp[Value.oneCell']) _ _ h.o rfl ?_;intro W a)
  | fail)
 have i:=a.blk.cell 0;have j:=a.blk.cell 1;have k:=a.blk.cell 2;have d:=zk a g;clear a c0 c1 c2;go_wp2_with fail;exact zr (.agg #[zI m,zI r,zI b]) (by simp[results,Tryz.results116,i,j,k,go_sem]) ⟨rfl,d.o⟩
theorem within_any(m r b t:Int)(w:World):
  Calls Tryz.prog 115 #[.agg #[zI m,zI r,zI b,zI t]] w λe w'=>Told w (Pr.mk m r b t).may e w':=by
 have q:=Blk.new w #[zI m,zI r,zI b,zI t] 87;have c0:=q.cell 0;have c1:=q.cell 1;have c2:=q.cell 2;have C:=q.cell 3;have d:Hid (zB w (w.alloc (.cells #[zI m,zI r,zI b,zI t] 87))):=zb.alloc zc _;clear q;by_cases c:0≤m
 ·skip
  by_cases f:m<50
  ·skip
   by_cases g:0≤r
   ·skip
    by_cases j:r≤15
    ·skip
     by_cases l:0≤b
     ·skip
      by_cases p:b≤8796093022207
      ·skip
       by_cases u:0≤t
       ·skip
        by_cases y:t≤65535
        ·skip
         have a:Hid ((Pr.mk m r b t).may):=⟨⟨c,by show m≤49;omega⟩,⟨g,j⟩,⟨l,p⟩,⟨u,y⟩⟩
         have i:decide (0≤m)=true:=by simp;omega
         have k:decide (m<50)=true:=by simp;omega
         have n:decide (0≤r)=true:=by simp;omega
         have s:decide (r≤15)=true:=by simp;omega
         have x:decide (0≤b)=true:=by simp;omega
         have z:decide (b≤8796093022207)=true:=by simp;omega
         have A:decide (0≤t)=true:=by simp;omega
         have B:decide (t≤65535)=true:=by simp;omega
         clear c f g j l p u y;go_enter Tryz.func115,Tryz.ntmps115;go_wp2_with fail;go_ret;exact Told.yes a.o d.o
        ·have B:decide (t≤65535)=false:=by simp;omega
         have a:Hid (¬ (Pr.mk m r b t).may):=λh=>by unfold Pr.may at h;simp only at h;omega
         have i:decide (0≤m)=true:=by simp;omega
         have k:decide (m<50)=true:=by simp;omega
         have n:decide (0≤r)=true:=by simp;omega
         have s:decide (r≤15)=true:=by simp;omega
         have x:decide (0≤b)=true:=by simp;omega
         have z:decide (b≤8796093022207)=true:=by simp;omega
         have A:decide (0≤t)=true:=by simp;omega
         clear c f g j l p u y;go_enter Tryz.func115,Tryz.ntmps115;go_wp2_with fail;go_ret;exact Told.no a.o d.o
       ·have A:decide (0≤t)=false:=by simp;omega
        have a:Hid (¬ (Pr.mk m r b t).may):=λh=>by unfold Pr.may at h;simp only at h;omega
        have i:decide (0≤m)=true:=by simp;omega
        have k:decide (m<50)=true:=by simp;omega
        have n:decide (0≤r)=true:=by simp;omega
        have s:decide (r≤15)=true:=by simp;omega
        have x:decide (0≤b)=true:=by simp;omega
        have z:decide (b≤8796093022207)=true:=by simp;omega
        clear c f g j l p u;go_enter Tryz.func115,Tryz.ntmps115;go_wp2_with fail;go_ret;exact Told.no a.o d.o
      ·have z:decide (b≤8796093022207)=false:=by simp;omega
       have a:Hid (¬ (Pr.mk m r b t).may):=λh=>by unfold Pr.may at h;simp only at h;omega
       have i:decide (0≤m)=true:=by simp;omega
       have k:decide (m<50)=true:=by simp;omega
       have n:decide (0≤r)=true:=by simp;omega
       have s:decide (r≤15)=true:=by simp;omega
       have x:decide (0≤b)=true:=by simp;omega
       clear c f g j l p;go_enter Tryz.func115,Tryz.ntmps115;go_wp2_with fail;go_ret;exact Told.no a.o d.o
     ·have x:decide (0≤b)=false:=by simp;omega
      have a:Hid (¬ (Pr.mk m r b t).may):=λh=>by unfold Pr.may at h;simp only at h;omega
      have i:decide (0≤m)=true:=by simp;omega
      have k:decide (m<50)=true:=by simp;omega
      have n:decide (0≤r)=true:=by simp;omega
      have s:decide (r≤15)=true:=by simp;omega
      clear c f g j l;go_enter Tryz.func115,Tryz.ntmps115;go_wp2_with fail;go_ret;exact Told.no a.o d.o
    ·have s:decide (r≤15)=false:=by simp;omega
     have a:Hid (¬ (Pr.mk m r b t).may):=λh=>by unfold Pr.may at h;simp only at h;omega
     have i:decide (0≤m)=true:=by simp;omega
     have k:decide (m<50)=true:=by simp;omega
     have n:decide (0≤r)=true:=by simp;omega
     clear c f g j;go_enter Tryz.func115,Tryz.ntmps115;go_wp2_with fail;go_ret;exact Told.no a.o d.o
   ·have n:decide (0≤r)=false:=by simp;omega
    have a:Hid (¬ (Pr.mk m r b t).may):=λh=>by unfold Pr.may at h;simp only at h;omega
    have i:decide (0≤m)=true:=by simp;omega
    have k:decide (m<50)=true:=by simp;omega
    clear c f g;go_enter Tryz.func115,Tryz.ntmps115;go_wp2_with fail;go_ret;exact Told.no a.o d.o
  ·have k:decide (m<50)=false:=by simp;omega
   have a:Hid (¬ (Pr.mk m r b t).may):=λh=>by unfold Pr.may at h;simp only at h;omega
   have i:decide (0≤m)=true:=by simp;omega
   clear c f;go_enter Tryz.func115,Tryz.ntmps115;go_wp2_with fail;go_ret;exact Told.no a.o d.o
 ·have i:decide (0≤m)=false:=by simp;omega
  have a:Hid (¬ (Pr.mk m r b t).may):=λh=>by unfold Pr.may at h;simp only at h;omega
  clear c;go_enter Tryz.func115,Tryz.ntmps115;go_wp2_with fail;go_ret;exact Told.no a.o d.o
end ora
namespace book
open Go.RowKit
def refV(f:Int):Value:=.iface 230 (.agg #[zI f])
def thrown(f:Int):List PanicEntry:=[{ v:=refV f,recovered:=false }]
theorem insist_ok(w:World):Calls Tryz.prog 164 #[zI 0] w λe w'=>e=.returned (.tuple #[])∧w'=w:=by
 go_enter Tryz.func164,Tryz.ntmps164;go_wp2;go_end0;exact⟨rfl,rfl⟩
theorem insist_no(f:Int)(hf:f≠0)(w:World):Calls Tryz.prog 164 #[zI f] w λe w'=>e=.panicked (thrown f)∧w'=w:=by
 have nf:(f != 0)=true:=by simpa using hf
 clear hf;go_enter Tryz.func164,Tryz.ntmps164;go_wp2;exact⟨rfl,rfl,rfl⟩
theorem reason_nil(w:World):Calls Tryz.prog 107 #[.nilIface] w λe w'=>e=.returned (zI 0)∧w'=w:=by
 have a:∀w:World,(binOp BinOp.eql 20 .nilIface .nilIface).run Tryz.prog w=.ok (.bool true) w:=λ_=>by kernel_rfl
 go_enter Tryz.func107,Tryz.ntmps107;go_wp2;go_ret;exact⟨rfl,rfl⟩
theorem reason_is(f:Int)(w:World):Calls Tryz.prog 107 #[refV f] w λe w'=>e=.returned (zI f)∧zB w w':=by
 have d:∀w:World,(binOp BinOp.eql 20 (refV f) .nilIface).run Tryz.prog w=.ok (.bool false) w:=λ_=>by kernel_rfl
 have b:∀w:World,(Instr.typeAssert (refV f) 20 205 false).run Tryz.prog w=.ok (refV f) w:=λ_=>by kernel_rfl
 have c:∀w:World,(Instr.typeAssert (refV f) 205 230 true).run Tryz.prog w=.ok (.tuple #[.agg #[zI f],.bool true]) w:=λ_=>by kernel_rfl
 have a:Hid (zB w (w.alloc (.cells #[zI f] 230))):=zb.alloc zc _;unfold refV at *;go_enter Tryz.func107,Tryz.ntmps107;go_wp2;go_ret;exact⟨rfl,a.o⟩
theorem encode_caught(g:Nat)(f0 f:Int)(w:World)(hb:Blk w g #[zI f0] 36):
  CallsD Tryz.prog 118 #[.pointer (some ⟨g,0,none⟩)] (.panicking (thrown f)) w λe u' w'=>e=.returned (.tuple #[])∧settle u'=.returning∧∃W,zB w W∧Upd W w' g #[zI f] 36:=by
 refine callsD_of_wpS Tryz.func118 rfl λk cs d=>?_;apply wpS_region;simp only[thrown] at d;simp[wpOpsS,go_sem,recoverD,d,Tryz.ntmps118,Exit.thenS];refine(reason_is f w).mono ?_;rintro e b ⟨rfl,a⟩;have c:=hb.next a;have i:=c.cell 0;have j:=c.free 0;have h:Upd b (b.setCell ⟨g,0,none⟩ (zI f)) g #[zI f] 36:=upd_cells g _ [zI f] 0 b _ c;simp[go_sem,i,j,bodyPostS,results,Tryz.results118,settle];exact⟨b,a,h⟩
theorem encode_idle(g:Nat)(f0:Int)(w:World)(hb:Blk w g #[zI f0] 36):
  CallsD Tryz.prog 118 #[.pointer (some ⟨g,0,none⟩)] .returning w λe u' w'=>e=.returned (.tuple #[])∧settle u'=.returning∧∃W,zB w W∧Upd W w' g #[zI 0] 36:=by
 refine callsD_of_wpS Tryz.func118 rfl λc cs b=>?_;apply wpS_region;simp[wpOpsS,go_sem,recoverD,b,Tryz.ntmps118,Exit.thenS];refine(reason_nil w).mono ?_;rintro e a ⟨rfl,rfl⟩;have f:=hb.cell 0;have h:=hb.free 0;have d:Upd a (a.setCell ⟨g,0,none⟩ (zI 0)) g #[zI 0] 36:=upd_cells g _ [zI 0] 0 a _ hb;simp[go_sem,f,h,bodyPostS,results,Tryz.results118,b,settle];exact⟨.returning,(by cases c;simp_all),rfl,a,zb,d⟩
theorem decode_caught(g:Nat)(f0 f:Int)(w:World)(hb:Blk w g #[zI f0] 36):
  CallsD Tryz.prog 150 #[.pointer (some ⟨g,0,none⟩)] (.panicking (thrown f)) w λe u' w'=>e=.returned (.tuple #[])∧settle u'=.returning∧∃W,zB w W∧Upd W w' g #[zI f] 36:=by
 refine callsD_of_wpS Tryz.func150 rfl λk cs d=>?_;apply wpS_region;simp only[thrown] at d;simp[wpOpsS,go_sem,recoverD,d,Tryz.ntmps150,Exit.thenS];refine(reason_is f w).mono ?_;rintro e b ⟨rfl,a⟩;have c:=hb.next a;have i:=c.cell 0;have j:=c.free 0;have h:Upd b (b.setCell ⟨g,0,none⟩ (zI f)) g #[zI f] 36:=upd_cells g _ [zI f] 0 b _ c;simp[go_sem,i,j,bodyPostS,results,Tryz.results150,settle];exact⟨b,a,h⟩
theorem decode_idle(g:Nat)(f0:Int)(w:World)(hb:Blk w g #[zI f0] 36):
  CallsD Tryz.prog 150 #[.pointer (some ⟨g,0,none⟩)] .returning w λe u' w'=>e=.returned (.tuple #[])∧settle u'=.returning∧∃W,zB w W∧Upd W w' g #[zI 0] 36:=by
 refine callsD_of_wpS Tryz.func150 rfl λc cs b=>?_;apply wpS_region;simp[wpOpsS,go_sem,recoverD,b,Tryz.ntmps150,Exit.thenS];refine(reason_nil w).mono ?_;rintro e a ⟨rfl,rfl⟩;have f:=hb.cell 0;have h:=hb.free 0;have d:Upd a (a.setCell ⟨g,0,none⟩ (zI 0)) g #[zI 0] 36:=upd_cells g _ [zI 0] 0 a _ hb;simp[go_sem,f,h,bodyPostS,results,Tryz.results150,b,settle];exact⟨.returning,(by cases c;simp_all),rfl,a,zb,d⟩
open Go.ChangeMaps (setBlock heap_setBlock_same heap_setBlock_other)
def entI(m:Int)(i:Nat):MapEntry:={ key:=zI m,val:=zI (i:Int),born:=i }
def entsI:List Int→Nat→List MapEntry
 |[],_=>[]
 |p::l,i=>entI p i::entsI l (i+1)
theorem entsI_app(l:List Int)(p:Int)(i:Nat):entsI (l++[p]) i=entsI l i++[entI p (i+l.length)]:=by
 induction l generalizing i with
 |nil=>rfl
 |cons x l ih=>simp only[List.cons_append,entsI,ih,List.length_cons];rw[show i+1+l.length=i+(l.length+1) by omega]
def MpI(w:World)(B:Nat)(l:List Int):Prop:=w.heap[B]?=some (.map (entsI l 0).toArray l.length)
variable{l:List Int}{bk:List Cm}{B:Nat}{w:World}
theorem MpI.lt(h:MpI w B l):B<w.heap.size:=by
 unfold MpI at h;by_cases a:B<w.heap.size
 ·exact a
 ·rw[Array.getElem?_eq_none (by omega)] at h;cases h
theorem MpI.below{w w':World}(h:MpI w B l)(hb:zB w w'):MpI w' B l:=by
 have a:=h.lt;unfold MpI at *;rw[hb.block B a];exact h
theorem MpI.upd{w W:World}{B g:Nat}{cs:Array Value}{t:TypeId}(h:MpI w B l)(hU:Upd w W g cs t)(hne:B≠g):MpI W B l:=by
 unfold MpI at *;rw[hU.oth B hne];exact h
theorem MpI.new(w:World):MpI (w.alloc (.map #[] 0)) w.heap.size []:=by
 show (w.heap.push _)[w.heap.size]?=_;rw[Array.getElem?_push_size];rfl
def firstI:List Int→Int→Option Nat
 |[],_=>none
 |m::l,x=>if x=m then some 0 else (firstI l x).map (·+1)
theorem findingI(x:Int):∀(l:List Int)(i j:Nat),Instr.findNow (.int .i64) (zI x) (entsI l i) j=some ((firstI l x).map λk=>(j+k,Value.int .i64 ((i+k:Nat):Int)))
 |[],i,j=>rfl
 |m::l,i,j=>by
  have ih:=findingI x l (i+1) (j+1);unfold firstI;by_cases h:x=m
  ·subst h;simp[entsI,entI,Instr.findNow,Instr.sameNow]
  ·have a:(x==m)=false:=by simpa using h
   rw[if_neg h];simp only[entsI,entI,Instr.findNow,Instr.sameNow,if_true,a];rw[ih];cases firstI l x with
   |none=>rfl
   |some k=>simp[show j+1+k=j+(k+1) by omega,show i+1+k=i+(k+1) by omega];omega
theorem zintI(w:World):(zeroValue 3).run Tryz.prog w=.ok (zI 0) w:=by kernel_rfl
theorem chkI(em:Bool)(x:Int)(w:World):(Instr.checkKey em 10000 3 (zI x)).run Tryz.prog w=.ok () w:=by kernel_rfl
theorem keyI(x:Int)(l:List Int)(w:World):(Instr.findKey 3 (zI x) (entsI l 0)).run Tryz.prog w=.ok ((firstI l x).map λk=>(k,Value.int .i64 (k:Int))) w:=by
 have h:=findingI x l 0 0;simp only[Nat.zero_add] at h;simp[Instr.findKey,run_underlying Tryz.underlying3,Sem.run_bind,h]
theorem lookI_run(h:MpI w B l)(x:Int):
  (Instr.lookup 168 (.map (some B)) (zI x) true).run Tryz.prog w=.ok (.tuple #[zI (((firstI l x).getD 0:Nat):Int),.bool (firstI l x).isSome]) w:=by
 have hf:=keyI x l w;cases hl:firstI l x with
 |none=>rw[hl] at hf;simp[Instr.lookup,run_underlying Tryz.underlying168,MapKept.run_getObj_map h,chkI,hf,zintI,Result.andThen,Sem.run_bind]
 |some k=>rw[hl] at hf;simp[Instr.lookup,run_underlying Tryz.underlying168,MapKept.run_getObj_map h,chkI,hf,Result.andThen,Sem.run_bind]
theorem updI_run(h:MpI w B l)(x:Int)(hn:firstI l x=none):
  ∃W,(Instr.mapUpdate 168 (.map (some B)) (zI x) (zI (l.length:Int))).run Tryz.prog w=.ok () W∧MpI W B (l++[x])∧(∀G,G≠B→W.heap[G]?=w.heap[G]?)∧(∀B0 w0,B0≤B→Below B0 w0 w→Below B0 w0 W)∧W.heap.size=w.heap.size∧w.grownBy W (some B):=by
 have hf:=keyI x l w;rw[hn] at hf;refine⟨setBlock w B (.map ((entsI l 0).toArray.push ⟨zI x,zI (l.length:Int),l.length⟩) (l.length+1)),?_,?_,λG d=>heap_setBlock_other h _ d,λB0 w0 f a=>?_,by simp[setBlock],⟨rfl,rfl,rfl,by simp[setBlock],λk c b=>heap_setBlock_other h _ (λe=>b (by rw[e]))⟩⟩
 ·simp[Instr.mapUpdate,run_underlying Tryz.underlying168,MapKept.run_getObj_map h,chkI,hf,MapKept.run_setObj_map _ h,Result.andThen,setBlock,Sem.run_bind]
 ·unfold MpI;rw[heap_setBlock_same h,entsI_app,List.length_append];simp[entI]
 ·refine⟨a.os,a.tape,a.output,by simp[setBlock];exact a.size,λk c=>?_⟩;rw[heap_setBlock_other h _ (by omega)];exact a.block k c
theorem mkMapI(w:World):(Instr.makeMap 168 none).run Tryz.prog w=.ok (.map (some w.heap.size)) (w.alloc (.map #[] 0)):=by kernel_rfl
def mes(bk:List Cm):List Int:=bk.map λc=>c.a.me
theorem mes_len(bk:List Cm):(mes bk).length=bk.length:=by simp[mes]
theorem first_some{x:Int}{k:Nat}(h:firstI (mes bk) x=some k):FirstAt bk x k:=by
 induction bk generalizing k with
 |nil=>cases h
 |cons c bk ih=>
  unfold mes firstI at h;simp only[List.map_cons] at h;by_cases b:x=c.a.me
  ·rw[if_pos b] at h;cases h;exact⟨by simp,b.symm,λj d=>absurd d (Nat.not_lt_zero _)⟩
  ·rw[if_neg b] at h;cases hf:firstI (mes bk) x with
   |none=>rw[show firstI (List.map (λc=>c.a.me) bk) x=none from hf] at h;cases h
   |some m=>
    rw[show firstI (List.map (λc=>c.a.me) bk) x=some m from hf] at h;cases h;have:=ih hf
    exact ⟨by have:=this.1;simp;omega,this.2.1,fun j d=>by
     cases j with
     |zero=>exact λe=>b e.symm
     | succ j=>exact this.2.2 j (by have:j+1<m+1:=d;omega)⟩
theorem first_none{x:Int}(h:firstI (mes bk) x=none):NoneAt bk x:=by
 induction bk with
 |nil=>intro j b;cases b
 |cons c bk ih=>
  unfold mes firstI at h;simp only[List.map_cons] at h;by_cases d:x=c.a.me
  ·rw[if_pos d] at h;cases h
  ·rw[if_neg d] at h
   have hf:firstI (mes bk) x=none:=by
    cases hf:firstI (mes bk) x with
    |none=>rfl
    |some m=>rw[show firstI (List.map (λc=>c.a.me) bk) x=some m from hf] at h;cases h
   intro j b;cases j with
   |zero=>exact λe=>d e.symm
   |succ j=>exact ih hf j (by simpa using b)
theorem mes_set{k:Nat}{c:Cm}(h:c.a.me=(bk.getD k cm0).a.me):mes (bk.set k c)=mes bk:=by
 unfold mes;apply List.ext_getElem?;intro j;simp only[List.getElem?_map,List.getElem?_set];by_cases d:k=j
 ·subst d;rw[if_pos rfl];by_cases b:k<bk.length
  ·rw[if_pos b,List.getElem?_eq_getElem b];simp only[Option.map_some,h,List.getD,List.getElem?_eq_getElem b,Option.getD]
  ·rw[if_neg b,List.getElem?_eq_none (by omega)]
 ·rw[if_neg d]
end book
end Go.Proofs.YtoepgdhiepedeaaGreatDoor
