import Derived.Test.YtnpblpbohcegoaaGreatDoorVVCut32
import Derived.Test.YtnpblpbohcegoaaGreatDoorVVCut33
import Derived.Test.YtnpblpbohcegoaaGreatDoorVVCut39
set_option linter.unusedVariables false
set_option linter.unusedSimpArgs false
set_option maxHeartbeats 4000000
set_option maxRecDepth 100000
namespace Go.Proofs.YtnpblpbohcegoaaGreatDoor
namespace book
open Go.RowKit
theorem eqSo_f0 (x0 x1 x2 x3 x4:Int) (w:World):(part 3 #[zI x0,zI x1,zI x2,zI x3,zI x4] 0).run Tryz.prog w = .ok (zI x0) w:=by kernel_rfl
theorem eqSo_f1 (x0 x1 x2 x3 x4:Int) (w:World):(part 3 #[zI x0,zI x1,zI x2,zI x3,zI x4] 1).run Tryz.prog w = .ok (zI x1) w:=by kernel_rfl
theorem eqSo_f2 (x0 x1 x2 x3 x4:Int) (w:World):(part 3 #[zI x0,zI x1,zI x2,zI x3,zI x4] 2).run Tryz.prog w = .ok (zI x2) w:=by kernel_rfl
theorem eqSo_f3 (x0 x1 x2 x3 x4:Int) (w:World):(part 3 #[zI x0,zI x1,zI x2,zI x3,zI x4] 3).run Tryz.prog w = .ok (zI x3) w:=by kernel_rfl
theorem eqSo_f4 (x0 x1 x2 x3 x4:Int) (w:World):(part 3 #[zI x0,zI x1,zI x2,zI x3,zI x4] 4).run Tryz.prog w = .ok (zI x4) w:=by kernel_rfl
theorem eqSoN (x0 x1 x2 x3 x4:Int) (w:World):(Op.equalIn 10000 56 (.agg #[zI x0,zI x1,zI x2,zI x3,zI x4]) (.agg #[zI x0,zI x1,zI x2,zI x3,zI x4])).run Tryz.prog w = .ok true w:=by
 rw [show (10000:Nat)=9999+1 from rfl,run_equalIn_agg w 9999 56 _ _ (by kernel_rfl) (by kernel_rfl)];simp only [Program.fieldsOf,Tryz.underlying56,Op.eqFields,Sem.run_bind,Sem.run_ite];simp [eqSo_f0,eqSo_f1,eqSo_f2,eqSo_f3,eqSo_f4,show (9999:Nat)=9998+1 from rfl,eqI]
theorem eqRSo (r:So):∀ w:World,(Op.equalIn 10000 56 (.agg #[zI r.id,zI r.cl,zI r.am,zI r.tg,zI r.rv]) (.agg #[zI r.id,zI r.cl,zI r.am,zI r.tg,zI r.rv])).run Tryz.prog w = .ok true w:=fun w=>eqSoN _ _ _ _ _ w
theorem solds_keep (a b:Option Addr) (n c1 c2:Nat) (zs:List So) (w:World) (h1:RowS w a n zs) (h2:RowS w b n zs) (hn:n≤4611686018427387903) :
  Calls Tryz.prog 20 #[.slice a n c1,.slice b n c2] w fun e w'=>e = .returned (.bool true)∧Below w.heap.size w w':=by
 have hne:((n:Int) != (n:Int))=false:=by simp
 have H1:Hid (RowS w a n zs):=h1;have H2:Hid (RowS w b n zs):=h2;clear h1 h2;go_enter Tryz.func20,Tryz.ntmps20;go_wp2_with fail;go_loopw [5] (fun i wr=>∃ k:Nat,k≤n∧i=zI (k:Int)∧Below w.heap.size w wr) (fun i _=>n - (intOf i).toNat)
 case atStart=>exact ⟨0,Nat.zero_le _,rfl,Below.refl _ _⟩
 case round=>
  obtain ⟨k,hk,rfl,hbl⟩:=hrel;have HBL:Hid (Below w.heap.size w wr):=hbl;clear hbl;by_cases hkn:k<n
  ·have ek:decide ((k:Int)<(n:Int))=true:=by simp;omega
   obtain ⟨b1,o1,ea,l1,hc1⟩:=H1.o.2.resolve_left (by omega);obtain ⟨b2,o2,eb,l2,hc2⟩:=H2.o.2.resolve_left (by omega);subst ea;subst eb;have HC0:Hid (∀ u,Below w.heap.size w u→u.cell? ⟨b1,o1+k*5,none⟩=some (zI (zs.getD k so0).id)):=fun u hu=>(hu.cell (p:=⟨b1,o1+k*5+0,none⟩) l1).trans (hc1 k 0 hkn (by decide));have HC1:Hid (∀ u,Below w.heap.size w u→u.cell? ⟨b1,o1+k*5+1,none⟩=some (zI (zs.getD k so0).cl)):=fun u hu=>(hu.cell (p:=⟨b1,o1+k*5+1,none⟩) l1).trans (hc1 k 1 hkn (by decide));have HC2:Hid (∀ u,Below w.heap.size w u→u.cell? ⟨b1,o1+k*5+2,none⟩=some (zI (zs.getD k so0).am)):=fun u hu=>(hu.cell (p:=⟨b1,o1+k*5+2,none⟩) l1).trans (hc1 k 2 hkn (by decide));have HC3:Hid (∀ u,Below w.heap.size w u→u.cell? ⟨b1,o1+k*5+3,none⟩=some (zI (zs.getD k so0).tg)):=fun u hu=>(hu.cell (p:=⟨b1,o1+k*5+3,none⟩) l1).trans (hc1 k 3 hkn (by decide));have HC4:Hid (∀ u,Below w.heap.size w u→u.cell? ⟨b1,o1+k*5+4,none⟩=some (zI (zs.getD k so0).rv)):=fun u hu=>(hu.cell (p:=⟨b1,o1+k*5+4,none⟩) l1).trans (hc1 k 4 hkn (by decide));have HD0:Hid (∀ u,Below w.heap.size w u→u.cell? ⟨b2,o2+k*5,none⟩=some (zI (zs.getD k so0).id)):=fun u hu=>(hu.cell (p:=⟨b2,o2+k*5+0,none⟩) l2).trans (hc2 k 0 hkn (by decide));have HD1:Hid (∀ u,Below w.heap.size w u→u.cell? ⟨b2,o2+k*5+1,none⟩=some (zI (zs.getD k so0).cl)):=fun u hu=>(hu.cell (p:=⟨b2,o2+k*5+1,none⟩) l2).trans (hc2 k 1 hkn (by decide));have HD2:Hid (∀ u,Below w.heap.size w u→u.cell? ⟨b2,o2+k*5+2,none⟩=some (zI (zs.getD k so0).am)):=fun u hu=>(hu.cell (p:=⟨b2,o2+k*5+2,none⟩) l2).trans (hc2 k 2 hkn (by decide));have HD3:Hid (∀ u,Below w.heap.size w u→u.cell? ⟨b2,o2+k*5+3,none⟩=some (zI (zs.getD k so0).tg)):=fun u hu=>(hu.cell (p:=⟨b2,o2+k*5+3,none⟩) l2).trans (hc2 k 3 hkn (by decide));have HD4:Hid (∀ u,Below w.heap.size w u→u.cell? ⟨b2,o2+k*5+4,none⟩=some (zI (zs.getD k so0).rv)):=fun u hu=>(hu.cell (p:=⟨b2,o2+k*5+4,none⟩) l2).trans (hc2 k 4 hkn (by decide))
   have hq:=eqRSo (zs.getD k so0);clear hc1 hc2 l1 l2;generalize zs.getD k so0=r at *;go_wp2_with fail;refine wp_region_held_drew (S:=fun v=>Below w.heap.size w v) (by kernel_rfl) HBL.o.drew (fun hHeld=>?_);refine zqs 0 17 (.slice (some ⟨b1,o1,none⟩) n c1) rfl rfl (by kernel_rfl) zid rfl (fun v hv=>by clear hv;go_simp) hHeld ?_;simp only [zq];refine zqs 1 18 (zI (k:Int)) rfl rfl (by kernel_rfl) zid rfl (fun v hv=>by clear hv;go_simp) hHeld ?_;simp only [zq];refine zqs 2 19 (.pointer (some ⟨b1,o1+k*5,none⟩)) rfl rfl (by kernel_rfl) zid rfl (fun v hv=>by clear hv;go_simp) hHeld ?_;simp only [zq];refine zqt 3 20 (.agg #[zI r.id,zI r.cl,zI r.am,zI r.tg,zI r.rv]) rfl rfl (by kernel_rfl) zid (Or.inl ⟨by rfl,fun v hv=>by have q0:=HC0.o v hv;have q1:=HC1.o v hv;have q2:=HC2.o v hv;have q3:=HC3.o v hv;have q4:=HC4.o v hv;clear hv;go_simp⟩) hHeld ?_;simp only [zq];refine zqs 4 21 (.slice (some ⟨b2,o2,none⟩) n c2) rfl rfl (by kernel_rfl) zid rfl (fun v hv=>by clear hv;go_simp) hHeld ?_;simp only [zq];refine zqs 5 22 (zI (k:Int)) rfl rfl (by kernel_rfl) zid rfl (fun v hv=>by clear hv;go_simp) hHeld ?_;simp only [zq];refine zqs 6 23 (.pointer (some ⟨b2,o2+k*5,none⟩)) rfl rfl (by kernel_rfl) zid rfl (fun v hv=>by clear hv;go_simp) hHeld ?_;simp only [zq];refine zqt 7 24 (.agg #[zI r.id,zI r.cl,zI r.am,zI r.tg,zI r.rv]) rfl rfl (by kernel_rfl) zid (Or.inl ⟨by rfl,fun v hv=>by have q0:=HD0.o v hv;have q1:=HD1.o v hv;have q2:=HD2.o v hv;have q3:=HD3.o v hv;have q4:=HD4.o v hv;clear hv;go_simp⟩) hHeld ?_;simp only [zq];refine zqt 8 25 (.bool false) rfl rfl (by kernel_rfl) zid (Or.inl ⟨by rfl,fun v hv=>run_neOp 56 _ _ _ rfl #[zI r.id,zI r.cl,zI r.am,zI r.tg,zI r.rv] #[zI r.id,zI r.cl,zI r.am,zI r.tg,zI r.rv] rfl rfl (by kernel_rfl) true (hq _)⟩) hHeld ?_;simp only [zq];refine wpAnyH_done (by kernel_rfl) ?_ _;clear hHeld;have HB2:Hid (Below w.heap.size w wr.drew):=HBL.o.drew;go_wp2_with fail
   go_roundw
   case rel=>exact ⟨k+1,by omega,by go_num,HB2.o⟩
   case measure=>simp [intOf];omega
  ·obtain rfl:k=n:=by omega
   go_wp2_with fail;go_ret;exact ⟨rfl,HBL.o⟩
open acc (Ac)
theorem cuK_of {x:Cu} {a:Ac} (h:Nums x a):∃ dp dn dc sp sn sc,x=⟨a.me,a.rv,a.nx,a.mo,a.bo,a.fr,dp,dn,dc,sp,sn,sc⟩:=by
 cases x;obtain ⟨h1,h2,h3,h4,h5,h6⟩:=h;simp only at h1 h2 h3 h4 h5 h6;subst h1 h2 h3 h4 h5 h6;exact ⟨_,_,_,_,_,_,rfl⟩
theorem book_keep (p1 p2:Option Addr) (m c1 c2:Nat) (xs ys:List Cu) (bk:List Cm) (w:World) (h1:Sees w p1 m xs bk) (h2:Sees w p2 m ys bk) (hm:m≤1000) (hs:∀ c∈bk,c.so.length≤1000000) :
  Calls Tryz.prog 19 #[.agg #[.slice p1 m c1],.agg #[.slice p2 m c2]] w fun e w'=>e = .returned (.bool true)∧Below w.heap.size w w':=by
 have hne:((m:Int) != (m:Int))=false:=by simp
 have hbw:Below w.heap.size w ((w.alloc (.cells #[.slice p1 m c1] 46)).alloc (.cells #[.slice p2 m c2] 46)):=((Below.refl w.heap.size w).alloc (Nat.le_refl _) _).alloc (by simp) _;have H1:Hid (Sees ((w.alloc (.cells #[.slice p1 m c1] 46)).alloc (.cells #[.slice p2 m c2] 46)) p1 m xs bk):=h1.below hbw;have H2:Hid (Sees ((w.alloc (.cells #[.slice p1 m c1] 46)).alloc (.cells #[.slice p2 m c2] 46)) p2 m ys bk):=h2.below hbw;have HSO:Hid (∀ c∈bk,c.so.length≤1000000):=hs;have HX1:Hid (Blk ((w.alloc (.cells #[.slice p1 m c1] 46)).alloc (.cells #[.slice p2 m c2] 46)) w.heap.size #[.slice p1 m c1] 46):=(Blk.new w _ _).alloc _;have HX2:Hid (Blk ((w.alloc (.cells #[.slice p1 m c1] 46)).alloc (.cells #[.slice p2 m c2] 46)) (w.heap.size+1) #[.slice p2 m c2] 46):=Blk.new1 w _ _ _;have HBW:Hid (Below w.heap.size w ((w.alloc (.cells #[.slice p1 m c1] 46)).alloc (.cells #[.slice p2 m c2] 46))):=hbw;clear h1 h2 hbw hs;go_enter Tryz.func19,Tryz.ntmps19;go_upto_region 1 with fail
 generalize ((w.alloc (.cells #[.slice p1 m c1] 46)).alloc (.cells #[.slice p2 m c2] 46))=W at *;have HK1:Hid (∀ u,Below W.heap.size W u→u.cell? ⟨w.heap.size,0,none⟩=some (.slice p1 m c1)):=fun u hu=>(HX1.o.next hu).cell 0;have HK2:Hid (∀ u,Below W.heap.size W u→u.cell? ⟨w.heap.size+1,0,none⟩=some (.slice p2 m c2)):=fun u hu=>(HX2.o.next hu).cell 0;have k1:=HK1.o W (Below.refl _ _);have k2:=HK2.o W (Below.refl _ _);go_wp2_with fail;clear k1 k2;go_loopw [5] (fun i wr=>∃ k:Nat,k≤m∧i=zI (k:Int)∧Below W.heap.size W wr) (fun i _=>m - (intOf i).toNat)
 case atStart=>exact ⟨0,Nat.zero_le _,rfl,Below.refl _ _⟩
 case round=>
  obtain ⟨k,hk,rfl,hbl⟩:=hrel;have HBL:Hid (Below W.heap.size W wr):=hbl;have k1:=HK1.o wr hbl;have k2:=HK2.o wr hbl;clear hbl;by_cases hkn:k<m
  ·have ek:decide ((k:Int)<(m:Int))=true:=by simp;omega
   obtain ⟨b1,o1,e1,l1,hc1⟩:=H1.o.row.2.resolve_left (by omega);obtain ⟨b2,o2,e2,l2,hc2⟩:=H2.o.row.2.resolve_left (by omega);have hk1:k<xs.length:=by rw [H1.o.row.1];exact hkn
   have hk2:k<ys.length:=by rw [H2.o.row.1];exact hkn
   have hkb:k<bk.length:=by rw [← H1.o.len];exact hk1
   have hn1:=H1.o.num k hk1;have hn2:=H2.o.num k hk2;have hd1:=H1.o.ds k hk1;have hd2:=H2.o.ds k hk2;have hs1:=H1.o.so k hk1;have hs2:=H2.o.so k hk2
   have hsl:=HSO.o (bk.getD k cm0) (by
    have q:bk.getD k cm0=bk[k]:=by simp [List.getD,List.getElem?_eq_getElem hkb]
    rw [q];exact List.getElem_mem _)
   obtain ⟨⟨a,sol⟩,hcm⟩:∃ c,c=bk.getD k cm0:=⟨_,rfl⟩
   rw [← hcm] at hn1 hn2 hd1 hd2 hs1 hs2 hsl;obtain ⟨d1,dn,dc1,s1,sn,sc1,hx1⟩:=cuK_of hn1;obtain ⟨d2,dn2,dc2,s2,sn2,sc2,hx2⟩:=cuK_of hn2;rw [hx1] at hd1 hs1;rw [hx2] at hd2 hs2;simp only at hd1 hd2 hs1 hs2 hsl;obtain rfl:dn=dn2:=hd1.row.1.symm.trans hd2.row.1;obtain rfl:sn=sn2:=hs1.1.symm.trans hs2.1;have HSA:Hid (∀ U,Below W.heap.size W U→Calls Tryz.prog 41 #[.agg #[zI a.me,zI a.rv,zI a.nx,zI a.mo,zI a.bo,zI a.fr,.slice d1 dn dc1],.agg #[zI a.me,zI a.rv,zI a.nx,zI a.mo,zI a.bo,zI a.fr,.slice d2 dn dc2]] U fun e w'=>e = .returned (.bool true)∧Below U.heap.size U w'):=fun U hU=>acc.keep_acc a d1 d2 dn dc1 dc2 U (hd1.below hU) (hd2.below hU);have HSS:Hid (∀ U,Below W.heap.size W U→Calls Tryz.prog 20 #[.slice s1 sn sc1,.slice s2 sn sc2] U fun e w'=>e = .returned (.bool true)∧Below U.heap.size U w'):=fun U hU=>solds_keep s1 s2 sn sc1 sc2 sol U (hs1.below hU) (hs2.below hU) (by have:=hs1.1;omega);subst e1;subst e2;clear hn1 hn2 hd1 hd2 hs1 hs2 hsl hcm hk1 hk2 hkb;have HC0:Hid (∀ u,Below W.heap.size W u→u.cell? ⟨b1,o1+k*8,none⟩=some (zI a.me)):=fun u hu=>(hu.cell (p:=⟨b1,o1+k*8+0,none⟩) l1).trans (by have q:=hc1 k 0 hkn (by decide);rw [hx1] at q;exact q);have HC1:Hid (∀ u,Below W.heap.size W u→u.cell? ⟨b1,o1+k*8+1,none⟩=some (zI a.rv)):=fun u hu=>(hu.cell (p:=⟨b1,o1+k*8+1,none⟩) l1).trans (by have q:=hc1 k 1 hkn (by decide);rw [hx1] at q;exact q);have HC2:Hid (∀ u,Below W.heap.size W u→u.cell? ⟨b1,o1+k*8+2,none⟩=some (zI a.nx)):=fun u hu=>(hu.cell (p:=⟨b1,o1+k*8+2,none⟩) l1).trans (by have q:=hc1 k 2 hkn (by decide);rw [hx1] at q;exact q);have HC3:Hid (∀ u,Below W.heap.size W u→u.cell? ⟨b1,o1+k*8+3,none⟩=some (zI a.mo)):=fun u hu=>(hu.cell (p:=⟨b1,o1+k*8+3,none⟩) l1).trans (by have q:=hc1 k 3 hkn (by decide);rw [hx1] at q;exact q);have HC4:Hid (∀ u,Below W.heap.size W u→u.cell? ⟨b1,o1+k*8+4,none⟩=some (zI a.bo)):=fun u hu=>(hu.cell (p:=⟨b1,o1+k*8+4,none⟩) l1).trans (by have q:=hc1 k 4 hkn (by decide);rw [hx1] at q;exact q)
   have HC5:Hid (∀ u,Below W.heap.size W u→u.cell? ⟨b1,o1+k*8+5,none⟩=some (zI a.fr)):=fun u hu=>(hu.cell (p:=⟨b1,o1+k*8+5,none⟩) l1).trans (by have q:=hc1 k 5 hkn (by decide);rw [hx1] at q;exact q);have HC6:Hid (∀ u,Below W.heap.size W u→u.cell? ⟨b1,o1+k*8+6,none⟩=some (.slice d1 dn dc1)):=fun u hu=>(hu.cell (p:=⟨b1,o1+k*8+6,none⟩) l1).trans (by have q:=hc1 k 6 hkn (by decide);rw [hx1] at q;exact q);have HC7:Hid (∀ u,Below W.heap.size W u→u.cell? ⟨b1,o1+k*8+7,none⟩=some (.slice s1 sn sc1)):=fun u hu=>(hu.cell (p:=⟨b1,o1+k*8+7,none⟩) l1).trans (by have q:=hc1 k 7 hkn (by decide);rw [hx1] at q;exact q);have HD0:Hid (∀ u,Below W.heap.size W u→u.cell? ⟨b2,o2+k*8,none⟩=some (zI a.me)):=fun u hu=>(hu.cell (p:=⟨b2,o2+k*8+0,none⟩) l2).trans (by have q:=hc2 k 0 hkn (by decide);rw [hx2] at q;exact q);have HD1:Hid (∀ u,Below W.heap.size W u→u.cell? ⟨b2,o2+k*8+1,none⟩=some (zI a.rv)):=fun u hu=>(hu.cell (p:=⟨b2,o2+k*8+1,none⟩) l2).trans (by have q:=hc2 k 1 hkn (by decide);rw [hx2] at q;exact q);have HD2:Hid (∀ u,Below W.heap.size W u→u.cell? ⟨b2,o2+k*8+2,none⟩=some (zI a.nx)):=fun u hu=>(hu.cell (p:=⟨b2,o2+k*8+2,none⟩) l2).trans (by have q:=hc2 k 2 hkn (by decide);rw [hx2] at q;exact q);have HD3:Hid (∀ u,Below W.heap.size W u→u.cell? ⟨b2,o2+k*8+3,none⟩=some (zI a.mo)):=fun u hu=>(hu.cell (p:=⟨b2,o2+k*8+3,none⟩) l2).trans (by have q:=hc2 k 3 hkn (by decide);rw [hx2] at q;exact q);have HD4:Hid (∀ u,Below W.heap.size W u→u.cell? ⟨b2,o2+k*8+4,none⟩=some (zI a.bo)):=fun u hu=>(hu.cell (p:=⟨b2,o2+k*8+4,none⟩) l2).trans (by have q:=hc2 k 4 hkn (by decide);rw [hx2] at q;exact q);have HD5:Hid (∀ u,Below W.heap.size W u→u.cell? ⟨b2,o2+k*8+5,none⟩=some (zI a.fr)):=fun u hu=>(hu.cell (p:=⟨b2,o2+k*8+5,none⟩) l2).trans (by have q:=hc2 k 5 hkn (by decide);rw [hx2] at q;exact q)
   have HD6:Hid (∀ u,Below W.heap.size W u→u.cell? ⟨b2,o2+k*8+6,none⟩=some (.slice d2 dn dc2)):=fun u hu=>(hu.cell (p:=⟨b2,o2+k*8+6,none⟩) l2).trans (by have q:=hc2 k 6 hkn (by decide);rw [hx2] at q;exact q);have HD7:Hid (∀ u,Below W.heap.size W u→u.cell? ⟨b2,o2+k*8+7,none⟩=some (.slice s2 sn sc2)):=fun u hu=>(hu.cell (p:=⟨b2,o2+k*8+7,none⟩) l2).trans (by have q:=hc2 k 7 hkn (by decide);rw [hx2] at q;exact q);clear hc1 hc2 l1 l2 hx1 hx2;go_wp2_with fail;refine wp_region_held_drew (S:=fun v=>Below W.heap.size W v) (by kernel_rfl) HBL.o.drew (fun hHeld=>?_);refine zqs 0 20 (.pointer (some ⟨w.heap.size,0,none⟩)) rfl rfl (by kernel_rfl) zid rfl (fun v hv=>by clear hv;go_simp) hHeld ?_;simp only [zq];refine zqt 1 21 (.slice (some ⟨b1,o1,none⟩) m c1) rfl rfl (by kernel_rfl) zid (Or.inl ⟨by rfl,fun v hv=>by have q0:=HK1.o v hv;clear hv;go_simp⟩) hHeld ?_;simp only [zq];refine zqs 2 22 (zI (k:Int)) rfl rfl (by kernel_rfl) zid rfl (fun v hv=>by clear hv;go_simp) hHeld ?_;simp only [zq];refine zqs 3 23 (.pointer (some ⟨b1,o1+k*8,none⟩)) rfl rfl (by kernel_rfl) zid rfl (fun v hv=>by clear hv;go_simp) hHeld ?_;simp only [zq];refine zqs 4 24 (.pointer (some ⟨b1,o1+k*8,none⟩)) rfl rfl (by kernel_rfl) zid rfl (fun v hv=>by clear hv;go_simp) hHeld ?_;simp only [zq];refine zqt 5 25 (.agg #[zI a.me,zI a.rv,zI a.nx,zI a.mo,zI a.bo,zI a.fr,.slice d1 dn dc1]) rfl rfl (by kernel_rfl) zid (Or.inl ⟨by rfl,fun v hv=>by have q0:=HC0.o v hv;have q1:=HC1.o v hv;have q2:=HC2.o v hv;have q3:=HC3.o v hv;have q4:=HC4.o v hv;have q5:=HC5.o v hv;have q6:=HC6.o v hv;clear hv;go_simp⟩) hHeld ?_;simp only [zq];refine zqs 6 26 (.pointer (some ⟨w.heap.size+1,0,none⟩)) rfl rfl (by kernel_rfl) zid rfl (fun v hv=>by clear hv;go_simp) hHeld ?_;simp only [zq];refine zqt 7 27 (.slice (some ⟨b2,o2,none⟩) m c2) rfl rfl (by kernel_rfl) zid (Or.inl ⟨by rfl,fun v hv=>by have q0:=HK2.o v hv;clear hv;go_simp⟩) hHeld ?_
   simp only [zq];refine zqs 8 28 (zI (k:Int)) rfl rfl (by kernel_rfl) zid rfl (fun v hv=>by clear hv;go_simp) hHeld ?_;simp only [zq];refine zqs 9 29 (.pointer (some ⟨b2,o2+k*8,none⟩)) rfl rfl (by kernel_rfl) zid rfl (fun v hv=>by clear hv;go_simp) hHeld ?_;simp only [zq];refine zqs 10 30 (.pointer (some ⟨b2,o2+k*8,none⟩)) rfl rfl (by kernel_rfl) zid rfl (fun v hv=>by clear hv;go_simp) hHeld ?_;simp only [zq];refine zqt 11 31 (.agg #[zI a.me,zI a.rv,zI a.nx,zI a.mo,zI a.bo,zI a.fr,.slice d2 dn dc2]) rfl rfl (by kernel_rfl) zid (Or.inl ⟨by rfl,fun v hv=>by have q0:=HD0.o v hv;have q1:=HD1.o v hv;have q2:=HD2.o v hv;have q3:=HD3.o v hv;have q4:=HD4.o v hv;have q5:=HD5.o v hv;have q6:=HD6.o v hv;clear hv;go_simp⟩) hHeld ?_;simp only [zq];refine zqo 12 (by kernel_rfl) rfl (fun K hK=>?_);rw [if_pos (by rfl)];refine wp_callOp 32 rfl (by clear hK;go_simp) (HSA.o _ HBL.o.drew) ?_;rintro e w2 ⟨rfl,hb⟩;have HBw2:Hid (Below W.heap.size W w2):=HBL.o.drew.trans (hb.mono HBL.o.drew.size);refine ⟨_,rfl,hK.o _ _ HBw2.o (fun hHeld=>?_)⟩;clear hK hb;simp only [zq];refine zqs 13 33 (.bool false) rfl rfl (by kernel_rfl) zid rfl (fun v hv=>by clear hv;go_simp) hHeld ?_;simp only [zq];refine zqs 14 34 (.bool false) rfl rfl (by kernel_rfl) zid rfl (fun v hv=>by clear hv;go_simp) hHeld ?_;simp only [zq];refine zqs 15 35 (.pointer (some ⟨w.heap.size,0,none⟩)) rfl rfl (by kernel_rfl) zid rfl (fun v hv=>by clear hv;go_simp) hHeld ?_;simp only [zq];refine zqt 16 36 (.slice (some ⟨b1,o1,none⟩) m c1) rfl rfl (by kernel_rfl) zid (Or.inl ⟨by rfl,fun v hv=>by have q0:=HK1.o v hv;clear hv;go_simp⟩) hHeld ?_;simp only [zq];refine zqs 17 37 (zI (k:Int)) rfl rfl (by kernel_rfl) zid rfl (fun v hv=>by clear hv;go_simp) hHeld ?_;simp only [zq];refine zqs 18 38 (.pointer (some ⟨b1,o1+k*8,none⟩)) rfl rfl (by kernel_rfl) zid rfl (fun v hv=>by clear hv;go_simp) hHeld ?_;simp only [zq];refine zqs 19 39 (.pointer (some ⟨b1,o1+k*8+7,none⟩)) rfl rfl (by kernel_rfl) zid rfl (fun v hv=>by clear hv;go_simp) hHeld ?_
   simp only [zq];refine zqt 20 40 (.slice s1 sn sc1) rfl rfl (by kernel_rfl) zid (Or.inl ⟨by rfl,fun v hv=>by have q7:=HC7.o v hv;clear hv;go_simp⟩) hHeld ?_;simp only [zq];refine zqs 21 41 (.pointer (some ⟨w.heap.size+1,0,none⟩)) rfl rfl (by kernel_rfl) zid rfl (fun v hv=>by clear hv;go_simp) hHeld ?_;simp only [zq];refine zqt 22 42 (.slice (some ⟨b2,o2,none⟩) m c2) rfl rfl (by kernel_rfl) zid (Or.inl ⟨by rfl,fun v hv=>by have q0:=HK2.o v hv;clear hv;go_simp⟩) hHeld ?_;simp only [zq];refine zqs 23 43 (zI (k:Int)) rfl rfl (by kernel_rfl) zid rfl (fun v hv=>by clear hv;go_simp) hHeld ?_;simp only [zq];refine zqs 24 44 (.pointer (some ⟨b2,o2+k*8,none⟩)) rfl rfl (by kernel_rfl) zid rfl (fun v hv=>by clear hv;go_simp) hHeld ?_;simp only [zq];refine zqs 25 45 (.pointer (some ⟨b2,o2+k*8+7,none⟩)) rfl rfl (by kernel_rfl) zid rfl (fun v hv=>by clear hv;go_simp) hHeld ?_;simp only [zq];refine zqt 26 46 (.slice s2 sn sc2) rfl rfl (by kernel_rfl) zid (Or.inl ⟨by rfl,fun v hv=>by have q7:=HD7.o v hv;clear hv;go_simp⟩) hHeld ?_;simp only [zq];refine zqo 27 (by kernel_rfl) rfl (fun K hK=>?_);rw [if_pos (by rfl)];refine wp_callOp 47 rfl (by clear hK;go_simp) (HSS.o _ HBw2.o) ?_;rintro e w3 ⟨rfl,hb⟩;have HBw3:=shB HBw2 hb;refine ⟨_,rfl,hK.o _ _ HBw3.o (fun hHeld=>?_)⟩;clear hK hb;simp only [zq];refine zqs 28 48 (.bool false) rfl rfl (by kernel_rfl) zid rfl (fun v hv=>by clear hv;go_simp) hHeld ?_;simp only [zq];refine zqs 29 49 (.bool false) rfl rfl (by kernel_rfl) zid rfl (fun v hv=>by clear hv;go_simp) hHeld ?_;simp only [zq];refine wpAnyH_done (by kernel_rfl) ?_ _;clear hHeld;go_wp2_with fail;go_roundw
   case rel=>exact ⟨k+1,by omega,by go_num,HBw3.o⟩
   case measure=>simp [intOf];omega
  ·obtain rfl:k=m:=by omega
   have ek:decide ((k:Int)<(k:Int))=false:=by simp
   have HB9:Hid (Below w.heap.size w wr):=HBW.o.trans (HBL.o.mono HBW.o.size);go_wp2_with fail;go_ret;exact ⟨rfl,HB9.o⟩
end book
namespace vnd
open disk (RepIs AppIs)
open book (Ev ev0 EMay evL evOf EncIs DecIs Cm cm0 So so0 BookIs Sees ECame FirstAt NoneAt Tells)
open acc (Ac Tm Bi TCame ACame SellIs GrantIs RekeyIs)
open ora (Pr IssueIs)
open token (Tok TTab fmtL)
open rcp (Rc rc0)
open cell (Wr RowU RowW)
open Go.RowKit
def BGot (w:World) (R:Ac→Bi→Int→Prop) (e:Ending) (w':World):Prop:=∃ b l p len cap f,e = .returned (.tuple #[acc.Ac.v b p len cap,acc.Bi.v l,zI f])∧R b l f∧Below w.heap.size w w'
theorem BGot.of {w:World} {R:Ac→Bi→Int→Prop} {e:Ending} {w':World} (h:acc.BPost w R e w'):BGot w R e w':=by
 obtain ⟨b,l,p,len,cap,f,h1,h2,_,h4⟩:=h;exact ⟨b,l,p,len,cap,f,h1,h2,h4⟩
def TagP (w:World) (o:List Pr) (me rv bd dr cl id am:Int) (e:Ending) (w':World):Prop:=∃ p5 n5 c5 o2 tg f,e = .returned (.tuple #[.agg #[.slice p5 n5 c5],.agg #[zI cl,zI id,zI am,zI tg],zI f])∧IssueIs o me rv bd dr o2 tg f∧ora.RowP w' p5 n5 o2∧(p5=none→c5=0)∧n5≤c5∧(∀ x,p5=some x→w.heap.size≤x.block)∧Below w.heap.size w w'
theorem ptagged (ao:Option Addr) (no ko:Nat) (o:List Pr) (y:Ac) (dp:Option Addr) (dn dc:Nat) (cl id am dr:Int) (K:Tok) (w:World) (ht:TTab w) (hk:K.ok) (hv:K.v = .agg #[zI cl,zI id,zI am,zI 0]) (ho:ora.RowP w ao no o):Calls Tryz.prog 123 #[.agg #[.slice ao no ko],.agg #[zI y.me,zI y.rv,zI y.nx,zI y.mo,zI y.bo,zI y.fr,.slice dp dn dc],.agg #[zI cl,zI id,zI am,zI 0],zI dr] w fun e w'=>TagP w o y.me y.rv (K.body:Int) dr cl id am e w':=by
 have HO:Hid (∀ W,Below w.heap.size w W→ora.RowP W ao no o):=fun W hW=>ho.below hW
 have HBO:Hid (∀ W,Below w.heap.size w W→Calls Tryz.prog 162 #[.agg #[zI cl,zI id,zI am,zI 0]] W fun e w'=>e = .returned (.tuple #[zI (K.body:Int),zI 0])∧Below W.heap.size W w'):=fun W hW=>by
  have hh:=token.body_ok K W (ht.below hW) hk;rw [hv] at hh;exact hh
 clear ht hk hv ho;generalize (K.body:Int)=bd at *;obtain ⟨W0,HWW,H0o,H0a,H0k,H0r,H0q,H0B,hs0⟩:=sh5 w #[.slice ao no ko] 39 #[zI y.me,zI y.rv,zI y.nx,zI y.mo,zI y.bo,zI y.fr,.slice dp dn dc] 51 #[zI cl,zI id,zI am,zI 0] 96 #[zS] 39 #[zI 0,zI 0,zI 0,zI 0] 96;go_enter Tryz.func123,Tryz.ntmps123;go_upto_region 1 with fail
 rw [HWW.o];clear HWW;have HBD:=HBO.o W0 H0B.o;clear HBO
 go_wp2_with (first
  | (refine zqw rfl rfl rfl H0o zqu39 ?_)
  | (refine zqw rfl rfl rfl H0a zqu51 ?_)
  | (refine zqw rfl rfl rfl H0k zqu96 ?_)
  | (refine zqw rfl rfl rfl H0r zqu39 ?_)
  | (refine zqw rfl rfl rfl H0q zqu96 ?_)
  | fail)
 refine HBD.mono ?_;rintro e w1 ⟨rfl,hb1⟩;have H1o:=shN H0o hb1;have H1a:=shN H0a hb1;have H1k:=shN H0k hb1;have H1r:=shN H0r hb1;have H1q:=shN H0q hb1;have H1B:=shB H0B hb1;have hsw1:W0.heap.size≤w1.heap.size:=hb1.size;clear hb1 H0o H0a H0k H0r H0q H0B;clear HBD;have HIS:Hid (Calls Tryz.prog 163 #[.agg #[.slice ao no ko],zI y.me,zI y.rv,zI bd,zI dr] w1 fun e w'=>ora.IssueQ w1 o y.me y.rv bd dr e w'):=ora.poi ao no ko o y.me y.rv bd dr w1 (HO.o _ H1B.o);have qa0:w1.cell? ⟨w.heap.size+1,0,none⟩=some (zI y.me):=H1a.o.cell 0;have qa1:w1.cell? ⟨w.heap.size+1,1,none⟩=some (zI y.rv):=H1a.o.cell 1
 go_wp2_with (first
  | (refine zqw rfl rfl rfl H1o zqu39 ?_)
  | (refine zqw rfl rfl rfl H1a zqu51 ?_)
  | (refine zqw rfl rfl rfl H1k zqu96 ?_)
  | (refine zqw rfl rfl rfl H1r zqu39 ?_)
  | (refine zqw rfl rfl rfl H1q zqu96 ?_)
  | fail)
 clear qa0 qa1;refine HIS.o.mono ?_;rintro e w2 ⟨v5,o2,tg,f5,rfl,hpw,hisx,hb2⟩;have H2o:=shN H1o hb2;have H2a:=shN H1a hb2;have H2k:=shN H1k hb2;have H2r:=shN H1r hb2;have H2q:=shN H1q hb2;have H2B:=shB H1B hb2;have hsw2:w1.heap.size≤w2.heap.size:=hb2.size;clear hb2 H1o H1a H1k H1r H1q H1B;obtain ⟨p5,c5,rfl,hrp,hnl,hcp,hnw⟩:=hpw.lies;have HII:Hid (IssueIs o y.me y.rv bd dr o2 tg f5):=hisx;have HRP:Hid (ora.RowP w2 p5 o2.length o2):=hrp;have HNL:Hid ((p5=none→c5=0)∧o2.length≤c5):=⟨hnl,hcp⟩
 have HNW:Hid (∀ x,p5=some x→w1.heap.size≤x.block∧x.block<w2.heap.size):=hnw;clear hrp hnl hcp hnw hisx hpw HIS HO;generalize o2.length=n5 at *;have H3E:Hid (Below w2.heap.size w2 w2):=Below.refl _ _;obtain ⟨W3,HWW,H4n,H4E,hsW3⟩:=sh1 w2 #[.slice p5 n5 c5] 39;have H4o:=shN H2o H4E.o;have H4a:=shN H2a H4E.o;have H4k:=shN H2k H4E.o;have H4r:=shN H2r H4E.o;have H4q:=shN H2q H4E.o;have H4B:=shB H2B H4E.o;go_upto_region 3 with fail
 clear H2o H2a H2k H2r H2q H3E H2B;rw [HWW.o];clear HWW;go_wp2_with (first | (refine wp_let1 rfl 3 _ _ rfl (w.heap.size+1+1) 3 rfl .i64 tg rfl (by kernel_rfl) #[zI cl,zI id,zI am,zI 0] 96 H4k.o (by simp) ?_) | fail)
 intro W4 hU;have HRW:Hid (ora.RowP W4 p5 n5 o2):=rowP_off (HRP.o.below H4E.o) (fun x hx=>by have:=HNW.o x hx;omega) hU;have H5o:=shK hU H4o (by omega);have H5a:=shK hU H4a (by omega);have H5k:Hid (Blk W4 (w.heap.size+1+1) #[zI cl,zI id,zI am,zI tg] 96):=hU.blk;have H5r:=shK hU H4r (by omega);have H5q:=shK hU H4q (by omega);have H5n:=shK hU H4n (by omega);have H5B:=shV hU H4B (by omega);have hsW4:W4.heap.size=W3.heap.size:=hU.size;clear hU H4o H4a H4k H4r H4q H4n H4E H4B;clear HRP;go_wp2_with fail;refine wp_region_held_drew (S:=fun v=>Blk v (w2.heap.size) #[.slice p5 n5 c5] 39∧Blk v (w.heap.size+1+1) #[zI cl,zI id,zI am,zI tg] 96) (by kernel_rfl) ⟨Blk.drew H5n.o 1,Blk.drew H5k.o 1⟩ (fun hHeld=>?_);refine zqt 0 35 (.agg #[.slice p5 n5 c5]) rfl rfl (by kernel_rfl) zid (Or.inl ⟨by rfl,fun v hv=>by have g0:=hv.1.cell 0;clear hv;go_simp⟩) hHeld ?_;simp only [zq];refine zqt 1 36 (.agg #[zI cl,zI id,zI am,zI tg]) rfl rfl (by kernel_rfl) zid (Or.inl ⟨by rfl,fun v hv=>by have g0:=hv.2.cell 0;have g1:=hv.2.cell 1;have g2:=hv.2.cell 2;have g3:=hv.2.cell 3;clear hv;go_simp⟩) hHeld ?_;simp only [zq];refine zqs 2 37 (zI f5) rfl rfl (by kernel_rfl) zid rfl (fun v hv=>by clear hv;go_simp) hHeld ?_;simp only [zq];refine zqo 3 (by kernel_rfl) rfl (fun K hK=>?_);rw [if_pos (by rfl)];refine wp_letOp 39 _ _ rfl (w.heap.size+1+1+1) rfl #[.slice p5 n5 c5] rfl (by kernel_rfl) (by simp [Value.oneCell']) #[zS] 39 (Blk.drew H5r.o 1) rfl rfl ?_;intro V1 hU;have H6o:Hid (Blk V1 (w.heap.size) #[.slice ao no ko] 39):=hU.keep (Blk.drew H5o.o 1) (by omega);have H6a:Hid (Blk V1 (w.heap.size+1) #[zI y.me,zI y.rv,zI y.nx,zI y.mo,zI y.bo,zI y.fr,.slice dp dn dc] 51):=hU.keep (Blk.drew H5a.o 1) (by omega);have H6k:Hid (Blk V1 (w.heap.size+1+1) #[zI cl,zI id,zI am,zI tg] 96):=hU.keep (Blk.drew H5k.o 1) (by omega);have H6r:Hid (Blk V1 (w.heap.size+1+1+1) #[.slice p5 n5 c5] 39):=hU.blk
 have H6q:Hid (Blk V1 (w.heap.size+1+1+1+1) #[zI 0,zI 0,zI 0,zI 0] 96):=hU.keep (Blk.drew H5q.o 1) (by omega);have H6n:Hid (Blk V1 (w2.heap.size) #[.slice p5 n5 c5] 39):=hU.keep (Blk.drew H5n.o 1) (by omega);have HRV1:Hid (ora.RowP V1 p5 n5 o2):=rowP_off (HRW.o.below (bel_drew (Below.refl _ _) 1)) (fun x hx=>by have:=HNW.o x hx;omega) hU;have H6B:Hid (Below w.heap.size w V1):=hU.bel _ _ (by omega) H5B.o.drew;clear hU H5o H5a H5k H5r H5q H5n H5B;refine hK.o _ _ ⟨H6n.o,H6k.o⟩ (fun hHeld=>?_);clear hK K;refine zqo 4 (by kernel_rfl) rfl (fun K hK=>?_);rw [if_pos (by rfl)];refine wp_letOp 96 _ _ rfl (w.heap.size+1+1+1+1) rfl #[zI cl,zI id,zI am,zI tg] rfl (by kernel_rfl) (by simp [Value.oneCell']) #[zI 0,zI 0,zI 0,zI 0] 96 H6q.o rfl rfl ?_;intro V2 hU;have H7o:=shK hU H6o (by omega);have H7a:=shK hU H6a (by omega);have H7k:=shK hU H6k (by omega);have H7r:=shK hU H6r (by omega);have H7q:Hid (Blk V2 (w.heap.size+1+1+1+1) #[zI cl,zI id,zI am,zI tg] 96):=hU.blk;have H7n:=shK hU H6n (by omega);have HRV2:Hid (ora.RowP V2 p5 n5 o2):=rowP_off HRV1.o (fun x hx=>by have:=HNW.o x hx;omega) hU;have H7B:=shV hU H6B (by omega);clear hU H6o H6a H6k H6r H6q H6n H6B;refine hK.o _ _ ⟨H7n.o,H7k.o⟩ (fun hHeld=>?_);clear hK K;refine zqs 5 10 (zI f5) rfl rfl (by kernel_rfl) zid rfl (fun v hv=>by clear hv;go_simp) hHeld ?_;simp only [zq];refine wpAnyH_done (by kernel_rfl) ?_ _;clear hHeld;have Rr0:Hid (V2.cell? ⟨w.heap.size+1+1+1,0,none⟩=some (.slice p5 n5 c5)):=H7r.o.cell 0;obtain ⟨Rq0,Rq1,Rq2,Rq3⟩:=shc4 H7q;go_wp2_with fail;exact bodyPost_ret (v:= .tuple #[.agg #[.slice p5 n5 c5],.agg #[zI cl,zI id,zI am,zI tg],zI f5]) (by simp [results,Tryz.results123,Rr0.o,Rq0.o,Rq1.o,Rq2.o,Rq3.o,go_sem]) rfl ⟨p5,n5,c5,o2,tg,f5,rfl,HII.o,HRV2.o,HNL.o.1,HNL.o.2,(fun x hx=>by have:=HNW.o x hx;omega),H7B.o⟩
def OpnP (w:World) (t:Tm) (a:Option Addr) (n cap:Nat) (c:List Int) (e:Ending) (w':World):Prop:=
 (∃ f,e = .returned (.tuple #[.agg #[zS,zS,zI 0],zI f])∧f≠0∧LoadIs t c [] f∧Below w.heap.size w w') ∨
 (∃ p m cp xs bk l,e = .returned (.tuple #[.agg #[.slice p m cp,.slice a n cap,zI (l.length:Int)],zI 0])∧LoadIs t c bk 0∧KeptIs c l 0∧Sees w' p m xs bk∧m≤120∧Below w.heap.size w w')
theorem popen (t:Tm) (pt:Option Addr) (lt ct:Nat) (a:Option Addr) (n cap:Nat) (c:List Int) (w:World) (ht:TCame w t pt lt ct) (h:Dk w a n cap c):Calls Tryz.prog 23 #[.agg #[.slice pt lt ct,zI t.ff,zI t.fb,zI t.db,zI t.al],.slice a n cap] w fun e w'=>OpnP w t a n cap c e w':=by
 have HC:Hid (∀ W,Below w.heap.size w W→Dk W a n cap c):=fun W hW=>h.below hW;have HT:Hid (∀ W,Below w.heap.size w W→TCame W t pt lt ct):=fun W hW=>ht.below hW;clear h ht;obtain ⟨W0,HWW,H0t,H0r,H0B,hs0⟩:=sh2 w #[.slice pt lt ct,zI t.ff,zI t.fb,zI t.db,zI t.al] 24 #[zS,zS,zI 0] 87;go_enter Tryz.func23,Tryz.ntmps23;go_upto_region 1 with fail
 rw [HWW.o];clear HWW;have HKP:Hid (Calls Tryz.prog 50 #[.slice a n cap] W0 fun e w'=>KeptPost W0 c e w'):=pevents a n cap c W0 (HC.o _ H0B.o)
 go_wp2_with (first
  | (refine zqw rfl rfl rfl H0t zqu24 ?_)
  | (refine zqw rfl rfl rfl H0r zqu87 ?_)
  | fail)
 refine HKP.o.mono ?_;rintro e w1 ⟨p,m,cp,l,f,rfl,hk,hec,hm,hb1⟩;have H1t:=shN H0t hb1;have H1r:=shN H0r hb1;have H1B:=shB H0B hb1;have hsw1:W0.heap.size≤w1.heap.size:=hb1.size;clear hb1 H0t H0r H0B;have HKI:Hid (KeptIs c l f):=hk;have HEC:Hid (ECame w1 p m cp l):=hec;have HLN:Hid (l.length=m):=hec.row.1;clear hk hec HKP;by_cases h0:f=0
 ·subst h0;have HBO:Hid (Calls Tryz.prog 17 #[.agg #[.slice pt lt ct,zI t.ff,zI t.fb,zI t.db,zI t.al],.slice p m cp] w1 fun e w'=>book.BookPost w1 t l e w'):=book.kof w1 t pt lt ct p m cp l (HT.o _ H1B.o) HEC.o
  go_wp2_with (first
   | (refine zqw rfl rfl rfl H1t zqu24 ?_)
   | (refine zqw rfl rfl rfl H1r zqu87 ?_)
   | fail)
  refine HBO.o.mono ?_;rintro e w2 ⟨p2,m2,c2,xs,bk,at_,f2,rfl,hbi,hse,hm2,hb2⟩;have H2t:=shN H1t hb2;have H2r:=shN H1r hb2;have H2B:=shB H1B hb2;have hsw2:w1.heap.size≤w2.heap.size:=hb2.size;clear hb2 H1t H1r H1B;have HV:Hid (LoadIs t c bk f2):=⟨l,0,HKI.o,.inr ⟨rfl,at_,hbi⟩⟩
  have HBN:Hid (f2≠0→bk=[]):=book_no hbi;have HS2:Hid (Sees w2 p2 m2 xs bk):=hse;clear hbi hse HBO HEC;have H3X:Hid (Below w2.heap.size w2 w2):=Below.refl _ _;obtain ⟨W3,HWW,H4n,H4X,hsW3⟩:=sh1 w2 #[.slice p2 m2 c2] 46;have H4t:=shN H2t H4X.o;have H4r:=shN H2r H4X.o;have H4B:=shB H2B H4X.o;go_upto_region 5 with fail
  clear H2t H2r H3X H2B;rw [HWW.o];clear HWW;have HS3:Hid (Sees W3 p2 m2 xs bk):=HS2.o.below H4X.o;by_cases h2:f2=0
  ·subst h2;clear HS2
   go_wp2_with (first
    | (refine zql rfl rfl rfl rfl zqu87 (by simp [Value.oneCell']) H4r rfl ?_)
    | (refine zqw rfl rfl rfl H4t zqu24 ?_)
    | (refine zqw rfl rfl rfl H4r zqu87 ?_)
    | (refine zqw rfl rfl rfl H4n zqu46 ?_)
    | fail)
   intro W4 hU;have HS4:Hid (Sees W4 p2 m2 xs bk):=sees_far HS3.o (shop_odd H4r.o) hU;have H5t:=shK hU H4t (by omega);have H5r:Hid (Blk W4 (w.heap.size+1) #[.slice p2 m2 c2,.slice a n cap,zI (m:Int)] 87):=hU.blk;have H5n:=shK hU H4n (by omega);have H5B:=shV hU H4B (by omega);have hsW4:W4.heap.size=W3.heap.size:=hU.size;clear hU H4t H4r H4n H4B;have Rr0:Hid (W4.cell? ⟨w.heap.size+1,0,none⟩=some (.slice p2 m2 c2)):=H5r.o.cell 0;have Rr1:Hid (W4.cell? ⟨w.heap.size+1,1,none⟩=some (.slice a n cap)):=H5r.o.cell 1;have Rr2:Hid (W4.cell? ⟨w.heap.size+1,2,none⟩=some (zI (m:Int))):=H5r.o.cell 2;go_wp2_with fail;exact bodyPost_ret (v:= .tuple #[.agg #[.slice p2 m2 c2,.slice a n cap,zI (m:Int)],zI 0]) (by simp [results,Tryz.results23,Rr0.o,Rr1.o,Rr2.o,go_sem]) rfl (.inr ⟨p2,m2,c2,xs,bk,l,by rw [HLN.o],HV.o,HKI.o,HS4.o,hm2,H5B.o⟩)
  ·have d2:(f2 != 0)=true:=by simpa using h2
   have HV2:Hid (f2≠0∧LoadIs t c [] f2):=⟨h2,by rw [← HBN.o h2];exact HV.o⟩
   clear h2 HS2 HS3 HBN HV
   go_wp2_with (first
    | (refine zql rfl rfl rfl rfl zqu87 (by simp [Value.oneCell']) H4r rfl ?_)
    | (refine zqw rfl rfl rfl H4t zqu24 ?_)
    | (refine zqw rfl rfl rfl H4r zqu87 ?_)
    | (refine zqw rfl rfl rfl H4n zqu46 ?_)
    | fail)
   intro W4 hU;have H5t:=shK hU H4t (by omega);have H5r:Hid (Blk W4 (w.heap.size+1) #[zS,zS,zI 0] 87):=hU.blk;have H5n:=shK hU H4n (by omega);have H5B:=shV hU H4B (by omega);have hsW4:W4.heap.size=W3.heap.size:=hU.size;clear hU H4t H4r H4n H4B;obtain ⟨Rr0,Rr1,Rr2⟩:=shc3 H5r;go_wp2_with fail;exact bodyPost_ret (v:= .tuple #[.agg #[zS,zS,zI 0],zI f2]) (by simp [results,Tryz.results23,Rr0.o,Rr1.o,Rr2.o,go_sem]) rfl (.inl ⟨f2,rfl,HV2.o.1,HV2.o.2,H5B.o⟩)
 ·have d0:(f != 0)=true:=by simpa using h0
  have HV:Hid (f≠0∧LoadIs t c [] f):=⟨h0,l,f,HKI.o,.inl ⟨h0,rfl,rfl⟩⟩
  clear h0 HEC HKI
  go_wp2_with (first
   | (refine zql rfl rfl rfl rfl zqu87 (by simp [Value.oneCell']) H1r rfl ?_)
   | (refine zqw rfl rfl rfl H1t zqu24 ?_)
   | (refine zqw rfl rfl rfl H1r zqu87 ?_)
   | fail)
  intro W3 hU;have H2t:=shK hU H1t (by omega);have H2r:Hid (Blk W3 (w.heap.size+1) #[zS,zS,zI 0] 87):=hU.blk;have H2B:=shV hU H1B (by omega);have hsW3:W3.heap.size=w1.heap.size:=hU.size;clear hU H1t H1r H1B;obtain ⟨Rr0,Rr1,Rr2⟩:=shc3 H2r;go_wp2_with fail;exact bodyPost_ret (v:= .tuple #[.agg #[zS,zS,zI 0],zI f]) (by simp [results,Tryz.results23,Rr0.o,Rr1.o,Rr2.o,go_sem]) rfl (.inl ⟨f,rfl,HV.o.1,HV.o.2,H2B.o⟩)
theorem load_len {t:Tm} {c:List Int} {bk:List Cm} {l:List Ev} (h:LoadIs t c bk 0) (hk:KeptIs c l 0):l.length≤120:=by
 obtain ⟨l',e,hk',⟨p,_,q⟩ | ⟨_,a,q⟩⟩:=h
 ·exact absurd q.symm p
 ·rw [(hk.one hk').1];exact (book_ok q).2.1
end vnd
namespace book
open Go.RowKit cell
theorem ws_upd {w W:World} {base g:Nat} {cs:Array Value} {t:TypeId} {v:Value} {l:List Int} (h:Ws w base v l) (hU:Upd w W g cs t) (hg:g<base):Ws W base v l:=by
 refine ⟨h.1,?_⟩;rcases h.2 with hn | ⟨g',cap,cur,hv,hb,hc,rest⟩
 ·exact .inl hn
 ·exact .inr ⟨g',cap,cur,hv,hb,by rw [hU.oth g' (by omega)];exact hc,rest⟩
theorem kenc:KEnc:=by
 intro w v hwf;clear hwf;unfold Ev.v;have hmf:∀ (fn:Fn) (first cap:Array Value) (w:World),(Instr.makeFunc fn first cap).run Tryz.prog w = .ok (.func fn first cap) w:=fun _ _ _ _=>rfl;have HMU:Hid (∀ W,Calls Tryz.prog 67 #[.agg #[zI v.kd,zI v.me,zI v.mo,zI v.id,zI v.te,zI v.de,zI v.fe,zI v.pr,zI v.ch,zI v.un,zI v.tg,zI v.ow,zI v.bp]] W fun e w'=>MustPost W v e w'):=fun W=>bmust v W;have HWO:Hid (EMay v→∀ W,Calls Tryz.prog 153 #[.agg #[zI v.kd,zI v.me,zI v.mo,zI v.id,zI v.te,zI v.de,zI v.fe,zI v.pr,zI v.ch,zI v.un,zI v.tg,zI v.ow,zI v.bp]] W fun e w'=>∃ V,e = .returned V∧Ws w' W.heap.size V (evL v)∧Below W.heap.size W w'):=fun hm W=>bwords v (may_word hm) W;obtain ⟨W1,HWW,HX1,HE1,HB1,-⟩:=sh2 w #[zI v.kd,zI v.me,zI v.mo,zI v.id,zI v.te,zI v.de,zI v.fe,zI v.pr,zI v.ch,zI v.un,zI v.tg,zI v.ow,zI v.bp] 72 #[zI 0] 27;go_enter_defers Tryz.func107,Tryz.ntmps107;go_upto_region 2 with fail
 rw [HWW.o];clear HWW;obtain ⟨c0,c1,c2,c3,c4,c5,c6,c7,c8,c9,c10,c11,c12⟩:=scl13 HX1;go_wp2_with fail;refine (HMU.o _).mono ?_;rintro e W2 ⟨hm,hb⟩;have HX2:=shN HX1 hb;have HE2:=shN HE1 hb;have HB2:=shB HB1 hb;clear hb HX1 HE1 HB1 HMU c0 c1 c2 c3 c4 c5 c6 c7 c8 c9 c10 c11 c12;rcases hm with ⟨hm,rfl⟩ | ⟨hm,rfl⟩
 ·have HY:Hid (EMay v):=hm;have HWV:=HWO.o hm;have HWV':Hid (∀ W,Calls Tryz.prog 153 #[.agg #[zI v.kd,zI v.me,zI v.mo,zI v.id,zI v.te,zI v.de,zI v.fe,zI v.pr,zI v.ch,zI v.un,zI v.tg,zI v.ow,zI v.bp]] W fun e w'=>∃ V,e = .returned V∧Ws w' W.heap.size V (evL v)∧Below W.heap.size W w'):=HWV;clear hm HWO HWV;obtain ⟨c0,c1,c2,c3,c4,c5,c6,c7,c8,c9,c10,c11,c12⟩:=scl13 HX2;go_wp2_with fail;refine (HWV'.o _).mono ?_;rintro e W3 ⟨V,rfl,hV,hb⟩;have HE3:=shN HE2 hb;have HB3:=shB HB2 hb;have HV3:Hid (Ws W3 W2.heap.size V (evL v)):=hV;have hgs:Hid (w.heap.size+1<W2.heap.size):=HE2.o.lt;clear hb hV HX2 HE2 HB2 HWV' c0 c1 c2 c3 c4 c5 c6 c7 c8 c9 c10 c11 c12;go_wp2_with (first | (refine wp_let1 rfl 27 _ _ rfl (w.heap.size+1) 0 rfl .i64 0 rfl (by kernel_rfl) #[zI 0] 27 HE3.o (by decide) ?_) | fail)
  intro W4 hU;have HE4:Hid (Blk W4 (w.heap.size+1) #[zI 0] 27):=hU.blk;have HB4:=shV hU HB3 (by omega);have HV4:Hid (Ws W4 W2.heap.size V (evL v)):=ws_upd HV3.o hU hgs.o;clear hU;go_wp2_with fail;refine leaves_cons (f:=152) (args:=#[.pointer (some ⟨w.heap.size+1,0,none⟩)]) (by simp) (by simp [go_sem]) ?_;refine (encode_idle (w.heap.size+1) 0 _ HE4.o).mono ?_;rintro e u' w5 ⟨rfl,hs,W,hb,hU⟩;have r0:w5.cell? ⟨w.heap.size+1,0,none⟩=some (zI 0):=hU.blk.cell 0;have HB5:Below w.heap.size w w5:=hU.bel _ _ (by omega) (bel_step HB4.o hb);have HV5:Ws w5 W2.heap.size V (evL v):=ws_upd (HV4.o.next hb) hU hgs.o;obtain ⟨a,cap,hva,hrow,h1,h2⟩:=HV5.row;show Leaves _ _ _ _ [] (settle u') w5;rw [hs];refine ⟨.tuple #[V,zI 0],by simp [results,Tryz.results107,r0,go_sem],?_⟩;subst hva;exact ⟨a,_,cap,evL v,0,rfl,.inl ⟨HY.o,rfl,rfl⟩,hrow,h1,h2,by rw [evL_len];exact Nat.le_refl _,HB5⟩
 ·have HN:Hid (¬ EMay v):=hm;clear hm HWO;refine leaves_cons (f:=152) (args:=#[.pointer (some ⟨w.heap.size+1,0,none⟩)]) (by simp) (by simp [go_sem]) ?_;refine (encode_caught (w.heap.size+1) 0 5 _ HE2.o).mono ?_;rintro e u' w5 ⟨rfl,hs,W,hb,hU⟩;have r0:w5.cell? ⟨w.heap.size+1,0,none⟩=some (zI 5):=hU.blk.cell 0;have HB5:Below w.heap.size w w5:=hU.bel _ _ (by omega) (bel_step HB2.o hb);show Leaves _ _ _ _ [] (settle u') w5;rw [hs];refine ⟨.tuple #[zS,zI 5],by simp [results,Tryz.results107,r0,go_sem],?_⟩;exact ⟨none,0,0,[],5,rfl,.inr ⟨HN.o,rfl,rfl⟩,RowU.nil _ _,fun _=>rfl,Nat.le_refl _,Nat.zero_le _,HB5⟩
end book
namespace vnd
open disk (RepIs AppIs)
open book (Ev ev0 EMay evL evOf EncIs DecIs Cm cm0 So so0 BookIs Sees ECame FirstAt NoneAt)
open acc (Ac Tm Bi TCame ACame)
open cell (Wr RowU)
open Go.RowKit
theorem enc_yes {v:Ev} {ws:List Int} {g:Int} (h:EncIs v ws g) (hv:EMay v):(∀ x∈ws,0≤x∧x<4294967296)∧g=0:=by
 rcases h with ⟨_,rfl,rfl⟩ | ⟨n,_⟩
 ·exact ⟨book.may_word hv,rfl⟩
 ·exact absurd hv n
theorem pkeep (p2:Option Addr) (m2 c2:Nat) (a:Option Addr) (n cap:Nat) (c:List Int) (l:List Ev) (v:Ev) (w:World) (h:Dk w a n cap c) (hk:KeptIs c l 0) (hl:l.length≤120) (hv:EMay v):Calls Tryz.prog 61 #[.agg #[.slice p2 m2 c2,.slice a n cap,zI (l.length:Int)],.agg #[zI v.kd,zI v.me,zI v.mo,zI v.id,zI v.te,zI v.de,zI v.fe,zI v.pr,zI v.ch,zI v.un,zI v.tg,zI v.ow,zI v.bp]] w fun e w'=>WrGot w (KeepIs c v) e w':=by
 have HC:Hid (∀ W,Below w.heap.size w W→Dk W a n cap c):=fun W hW=>h.below hW;have HKI:Hid (KeptIs c l 0):=hk;have HV:Hid (EMay v):=hv;clear h hk hv;obtain ⟨W0,HWW,H0s,H0v,H0B,hs0⟩:=sh2 w #[.slice p2 m2 c2,.slice a n cap,zI (l.length:Int)] 87 #[zI v.kd,zI v.me,zI v.mo,zI v.id,zI v.te,zI v.de,zI v.fe,zI v.pr,zI v.ch,zI v.un,zI v.tg,zI v.ow,zI v.bp] 72;go_enter Tryz.func61,Tryz.ntmps61;go_upto_region 1 with fail
 rw [HWW.o];clear HWW;by_cases h1:l.length=120
 ·have d1:((l.length:Int) == 120)=true:=by simp;omega
  have HF:Hid (KeepIs c v [] 16):=⟨l,0,HKI.o,.inl ⟨by omega,rfl,rfl⟩⟩
  clear h1;have qs2:W0.cell? ⟨w.heap.size,2,none⟩=some (zI (l.length:Int)):=H0s.o.cell 2
  go_wp2_with (first
   | (refine zqw rfl rfl rfl H0s zqu87 ?_)
   | (refine zqw rfl rfl rfl H0v zqu72 ?_)
   | fail)
  go_ret2;exact ⟨none,0,0,[],16,rfl,HF.o,⟨rfl,.inl rfl⟩,(fun x hx=>by cases hx),Nat.le_refl _,Nat.zero_le _,H0B.o⟩
 ·have d1:((l.length:Int) == 120)=false:=by simp;omega
  have hl2:Hid (l.length<120):=(by omega:l.length<120)
  clear h1 hl;have HEN:Hid (Calls Tryz.prog 107 #[.agg #[zI v.kd,zI v.me,zI v.mo,zI v.id,zI v.te,zI v.de,zI v.fe,zI v.pr,zI v.ch,zI v.un,zI v.tg,zI v.ow,zI v.bp]] W0 fun e w'=>book.EncGot W0 v e w'):=book.kenc W0 v (book.wf_may HV.o);have qs2:W0.cell? ⟨w.heap.size,2,none⟩=some (zI (l.length:Int)):=H0s.o.cell 2
  go_wp2_with (first
   | (refine zqw rfl rfl rfl H0s zqu87 ?_)
   | (refine zqw rfl rfl rfl H0v zqu72 ?_)
   | fail)
  refine HEN.o.mono ?_;rintro e w1 ⟨ra,rn,rc,ws,g,rfl,hen,hrw,hrn,hrc,hr13,hb1⟩;have H1s:=shN H0s hb1;have H1v:=shN H0v hb1;have H1B:=shB H0B hb1;have hsw1:W0.heap.size≤w1.heap.size:=hb1.size;clear hb1 H0s H0v H0B;clear qs2;obtain ⟨hws,rfl⟩:=enc_yes hen HV.o;have HEI:Hid (EncIs v ws 0):=hen;clear hen HEN;have HAP:Hid (Calls Tryz.prog 108 #[.slice a n cap,.slice ra rn rc] w1 fun e w'=>disk.AppGot w1 c ws e w'):=(fun d:Dk w1 a n cap c=>disk.kappend w1 a n cap c ra rn rc ws d.row d.nil d.room d.bytes d.wd hrw hrn hrc (by omega) hws) (HC.o _ H1B.o)
  clear hrw hrn hrc hws;have qs1:w1.cell? ⟨w.heap.size,1,none⟩=some (.slice a n cap):=H1s.o.cell 1
  go_wp2_with (first
   | (refine zqw rfl rfl rfl H1s zqu87 ?_)
   | (refine zqw rfl rfl rfl H1v zqu72 ?_)
   | fail)
  refine HAP.o.mono ?_;rintro e w2 ⟨p3,m3,c3,ls,f3,rfl,hrow,hnew,hle,hsm,hai,hb2⟩;have H2s:=shN H1s hb2;have H2v:=shN H1v hb2;have H2B:=shB H1B hb2;have hsw2:w1.heap.size≤w2.heap.size:=hb2.size;clear hb2 H1s H1v H1B;clear qs1;have HF:Hid (KeepIs c v ls f3):=⟨l,0,HKI.o,.inr ⟨hl2.o,ws,0,HEI.o,.inr ⟨rfl,hai⟩⟩⟩
  have HRW:Hid (cell.RowW w2 p3 m3 ls):=hrow;have HNW:Hid (∀ x,p3=some x→w.heap.size≤x.block):=fun x hx=>Nat.le_trans (by omega) (hnew x hx);clear hrow hnew hai HAP HEI HKI HC hl2;go_wp2_with fail;go_ret2;exact ⟨p3,m3,c3,ls,f3,rfl,HF.o,HRW.o,HNW.o,hle,hsm,H2B.o⟩
end vnd
end Go.Proofs.YtnpblpbohcegoaaGreatDoor
