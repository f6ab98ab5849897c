import Derived.Test.YtnpblpbohcegoaaGreatDoorVVRts23
set_option linter.unusedVariables false
set_option linter.unusedSimpArgs false
set_option maxHeartbeats 4000000
set_option maxRecDepth 100000
namespace Go.Proofs.YtnpblpbohcegoaaGreatDoor
namespace acc
open tar (Du du0 Came RowD Ld PairT)
open Go.RowKit
theorem rowes (x:Ac) (p:Option Addr) (len cap:Nat) (q:Du) (w:World) (h:RowD w p len x.ds) (hl:len≤maxLen):Calls Tryz.prog 142 #[.agg #[zI x.me,zI x.rv,zI x.nx,zI x.mo,zI x.bo,zI x.fr,.slice p len cap],.agg #[zI q.a,zI q.b]] w fun e w'=>APost w (OweIs x q) e w':=by
 have hlen:=h.1;have HI1:Hid (∀ W,Calls Tryz.prog 101 #[zI q.a,zI 1,zI 1000000000] W fun e w'=>e = .returned (.bool (decide (1≤q.a∧q.a≤1000000000)))∧w'=W):=fun W=>cal.cin q.a 1 1000000000 W;have HI2:Hid (∀ W,Calls Tryz.prog 101 #[zI q.b,zI 0,zI 10000] W fun e w'=>e = .returned (.bool (decide (0≤q.b∧q.b≤10000)))∧w'=W):=fun W=>cal.cin q.b 0 10000 W;by_cases hm:AMay x
 ·have HM:Hid (AMay x):=hm;have hdm:=hm.1;have hl8:len≤8:=by have:=hm.1.1;omega
  obtain ⟨W0,HWW,H0d,H0e,H0r,H0B,hs0⟩:=sh3 w #[zI x.me,zI x.rv,zI x.nx,zI x.mo,zI x.bo,zI x.fr,.slice p len cap] 51 #[zI q.a,zI q.b] 70 #[zI 0,zI 0,zI 0,zI 0,zI 0,zI 0,zS] 51;have H0R:Hid (RowD W0 p len x.ds):=h.below H0B.o;go_enter Tryz.func142,Tryz.ntmps142;go_upto_region 1 with fail
  rw [HWW.o];clear HWW;have HAM:Hid (Calls Tryz.prog 173 #[.agg #[zI x.me,zI x.rv,zI x.nx,zI x.mo,zI x.bo,zI x.fr,.slice p len cap]] W0 fun e w'=>e = .returned (.bool true)∧Below W0.heap.size W0 w'):=ramay x p len cap _ H0R.o hl hm
  go_wp2_with (first
   | (refine zqw rfl rfl rfl H0d zqu51 ?_)
   | (refine zqw rfl rfl rfl H0e zqu70 ?_)
   | (refine zqw rfl rfl rfl H0r zqu51 ?_)
   | fail)
  refine HAM.o.mono ?_;rintro e w1 ⟨rfl,hb1⟩;have H1d:=shN H0d hb1;have H1e:=shN H0e hb1;have H1r:=shN H0r hb1;have H1R:Hid (RowD w1 p len x.ds):=H0R.o.below hb1;have H1B:=shB H0B hb1;have hsw1:W0.heap.size≤w1.heap.size:=hb1.size;clear hb1 H0d H0e H0r H0R H0B;clear HAM;clear hm;by_cases h1:1≤q.a∧q.a≤1000000000
  ·rw [decide_eq_true h1] at HI1;by_cases h2:0≤q.b∧q.b≤10000
   ·rw [decide_eq_true h2] at HI2;have qe0:w1.cell? ⟨w.heap.size+1,0,none⟩=some (zI q.a):=H1e.o.cell 0;have qe1:w1.cell? ⟨w.heap.size+1,1,none⟩=some (zI q.b):=H1e.o.cell 1;go_wp2_with fail;refine (HI1.o _).mono ?_;rintro e wz ⟨rfl,hwz⟩;obtain rfl:w1=wz:=hwz.symm;go_wp2_with fail;refine (HI2.o _).mono ?_;rintro e wz ⟨rfl,hwz⟩;obtain rfl:w1=wz:=hwz.symm;clear qe0 qe1 HI1 HI2;by_cases h3:len<8
    ·have d3:decide (8≤(len:Int))=false:=decide_eq_false (by omega);have d4:decide (8≤len)=false:=decide_eq_false (by omega);have HCP:Hid (Calls Tryz.prog 174 #[.agg #[zI x.me,zI x.rv,zI x.nx,zI x.mo,zI x.bo,zI x.fr,.slice p len cap]] w1 fun e w'=>∃ p' cap',e = .returned (Ac.v x p' len cap')∧deb.Fresh w' w1.heap.size p' len cap' x.ds∧Ld 70 w' w1.heap.size (.slice p' len cap') x.ds∧Below w1.heap.size w1 w'):=rcopyL x p len cap w1 H1R.o hdm
     have HMN:Hid (deb.Mays (x.ds++[q])):=⟨by rw [List.length_append,hlen];show len+1≤8;omega,deb.fits_mem fun d hd=>by
      rcases List.mem_append.1 hd with hd | hd
      ·exact deb.mem_fits hdm.2 d hd
      ·have e2:=List.mem_singleton.1 hd;subst e2;exact ⟨⟨by omega,h1.2⟩,h2⟩⟩
     have hzl:x.ds.length≤1000000:=by omega
     have HOV:Hid (OweIs x q ⟨x.me,x.rv,x.nx,x.mo,x.bo,x.fr,x.ds++[q]⟩ 0):= .inr (.inr (.inr ⟨HM.o,⟨h1,h2⟩,by rw [hlen];exact h3,rfl,rfl⟩));have qd6:w1.cell? ⟨w.heap.size,6,none⟩=some (.slice p len cap):=H1d.o.cell 6
     go_wp2_with (first
      | (refine zqw rfl rfl rfl H1d zqu51 ?_)
      | (refine zqw rfl rfl rfl H1e zqu70 ?_)
      | (refine zqw rfl rfl rfl H1r zqu51 ?_)
      | fail)
     refine HCP.o.mono ?_;rintro e w3 ⟨p3,cap3,rfl,hf3,hl3,hb3⟩;have H2d:=shN H1d hb3;have H2e:=shN H1e hb3;have H2r:=shN H1r hb3;have H2R:Hid (RowD w3 p len x.ds):=H1R.o.below hb3;have H2B:=shB H1B hb3;have hsw3:w1.heap.size≤w3.heap.size:=hb3.size;clear hb3 H1d H1e H1r H1R H1B;clear qd6;unfold Ac.v Ac.cs;have HL3:Hid (Ld 70 w3 w1.heap.size (.slice p3 len cap3) x.ds):=hl3;clear hf3 hl3 HCP;have HL4:Hid (Ld 70 (w3.alloc (.cells #[zI x.me,zI x.rv,zI x.nx,zI x.mo,zI x.bo,zI x.fr,.slice p3 len cap3] 51)) w1.heap.size (.slice p3 len cap3) x.ds):=HL3.o.alloc _;have H3d:Hid (Blk (w3.alloc (.cells #[zI x.me,zI x.rv,zI x.nx,zI x.mo,zI x.bo,zI x.fr,.slice p3 len cap3] 51)) (w.heap.size) #[zI x.me,zI x.rv,zI x.nx,zI x.mo,zI x.bo,zI x.fr,.slice p len cap] 51):=H2d.o.alloc _;have H3e:Hid (Blk (w3.alloc (.cells #[zI x.me,zI x.rv,zI x.nx,zI x.mo,zI x.bo,zI x.fr,.slice p3 len cap3] 51)) (w.heap.size+1) #[zI q.a,zI q.b] 70):=H2e.o.alloc _;have H3r:Hid (Blk (w3.alloc (.cells #[zI x.me,zI x.rv,zI x.nx,zI x.mo,zI x.bo,zI x.fr,.slice p3 len cap3] 51)) (w.heap.size+1+1) #[zI 0,zI 0,zI 0,zI 0,zI 0,zI 0,zS] 51):=H2r.o.alloc _;have H3n:Hid (Blk (w3.alloc (.cells #[zI x.me,zI x.rv,zI x.nx,zI x.mo,zI x.bo,zI x.fr,.slice p3 len cap3] 51)) w3.heap.size #[zI x.me,zI x.rv,zI x.nx,zI x.mo,zI x.bo,zI x.fr,.slice p3 len cap3] 51):=Blk.new w3 _ _;have H3B:Hid (Below w.heap.size w (w3.alloc (.cells #[zI x.me,zI x.rv,zI x.nx,zI x.mo,zI x.bo,zI x.fr,.slice p3 len cap3] 51))):=H2B.o.alloc H2B.o.size _;have hsW4:w3.heap.size<(w3.alloc (.cells #[zI x.me,zI x.rv,zI x.nx,zI x.mo,zI x.bo,zI x.fr,.slice p3 len cap3] 51)).heap.size:=(Blk.new w3 #[zI x.me,zI x.rv,zI x.nx,zI x.mo,zI x.bo,zI x.fr,.slice p3 len cap3] 51).lt;clear H2d H2e H2r H2B;go_upto_region 8 with fail
     generalize (w3.alloc (.cells #[zI x.me,zI x.rv,zI x.nx,zI x.mo,zI x.bo,zI x.fr,.slice p3 len cap3] 51))=W4 at *;have HZA:Hid (Ld 70 (W4.alloc (.cells #[zI q.a,zI q.b] 70)) w1.heap.size (.slice p3 len cap3) x.ds):=HL4.o.alloc _;have HBA:Hid (Below w.heap.size w (W4.alloc (.cells #[zI q.a,zI q.b] 70))):=H3B.o.alloc H3B.o.size _;have hsA:W4.heap.size<(W4.alloc (.cells #[zI q.a,zI q.b] 70)).heap.size:=(Blk.new W4 #[zI q.a,zI q.b] 70).lt;have HCA:Hid ((W4.alloc (.cells #[zI q.a,zI q.b] 70)).cell? ⟨W4.heap.size,0,none⟩=some (zI q.a)∧(W4.alloc (.cells #[zI q.a,zI q.b] 70)).cell? ⟨W4.heap.size,1,none⟩=some (zI q.b)):=⟨(Blk.new W4 _ _).cell 0,(Blk.new W4 _ _).cell 1⟩
     have HAd:Hid (Blk (W4.alloc (.cells #[zI q.a,zI q.b] 70)) (w.heap.size) #[zI x.me,zI x.rv,zI x.nx,zI x.mo,zI x.bo,zI x.fr,.slice p len cap] 51):=H3d.o.alloc _;have HAe:Hid (Blk (W4.alloc (.cells #[zI q.a,zI q.b] 70)) (w.heap.size+1) #[zI q.a,zI q.b] 70):=H3e.o.alloc _;have HAr:Hid (Blk (W4.alloc (.cells #[zI q.a,zI q.b] 70)) (w.heap.size+1+1) #[zI 0,zI 0,zI 0,zI 0,zI 0,zI 0,zS] 51):=H3r.o.alloc _;have HAn:Hid (Blk (W4.alloc (.cells #[zI q.a,zI q.b] 70)) (w3.heap.size) #[zI x.me,zI x.rv,zI x.nx,zI x.mo,zI x.bo,zI x.fr,.slice p3 len cap3] 51):=H3n.o.alloc _;have qn6:W4.cell? ⟨w3.heap.size,6,none⟩=some (.slice p3 len cap3):=H3n.o.cell 6
     go_wp2_with (first
      | (at_builtin;refine tar.wp_pair deb.debtT rfl _ _ rfl w1.heap.size W4.heap.size (.slice p3 len cap3) x.ds q rfl rfl HZA.o HCA.o hzl (by omega) ?_)
      | (refine zqw rfl rfl rfl H3d zqu51 ?_)
      | (refine zqw rfl rfl rfl H3e zqu70 ?_)
      | (refine zqw rfl rfl rfl H3r zqu51 ?_)
      | (refine zqw rfl rfl rfl H3n zqu51 ?_)
      | fail)
     intro v5 w5 h5 hg5;have H5d:Hid (Blk w5 (w.heap.size) #[zI x.me,zI x.rv,zI x.nx,zI x.mo,zI x.bo,zI x.fr,.slice p len cap] 51):=grown_blk HAd.o hg5 (tar.own_far HZA.o (by omega));have H5e:Hid (Blk w5 (w.heap.size+1) #[zI q.a,zI q.b] 70):=grown_blk HAe.o hg5 (tar.own_far HZA.o (by omega));have H5r:Hid (Blk w5 (w.heap.size+1+1) #[zI 0,zI 0,zI 0,zI 0,zI 0,zI 0,zS] 51):=grown_blk HAr.o hg5 (tar.own_far HZA.o (by omega));have H5n:Hid (Blk w5 (w3.heap.size) #[zI x.me,zI x.rv,zI x.nx,zI x.mo,zI x.bo,zI x.fr,.slice p3 len cap3] 51):=grown_blk HAn.o hg5 (fun e=>by have:=(World.ownsRow.lt HL3.o _ e.symm).2;omega);have H5B:Hid (Below w.heap.size w w5):=tar.own_bel HZA.o hg5 HBA.o (by omega) (by omega);have hsw5:(W4.alloc (.cells #[zI q.a,zI q.b] 70)).heap.size≤w5.heap.size:=hg5.size;obtain ⟨p5,c5,hv5,hf5⟩:=deb.ld_fresh h5 HMN.o;subst hv5;have HUNE:Hid (0<(x.ds++[q]).length→∀ y,p5=some y→y.block≠w3.heap.size):=ld_ne h5 H5n.o (by decide);have HUNR:Hid (0<(x.ds++[q]).length→∀ y,p5=some y→y.block≠w.heap.size+1+1):=ld_ne h5 H5r.o (by decide);have H5F:Hid (deb.Fresh w5 w1.heap.size p5 (x.ds++[q]).length c5 (x.ds++[q])):=hf5;clear h5 hg5 hf5 HL3 HL4 HZA HBA HCA HAd HAe HAr HAn H3d H3e H3r H3n H3B;clear qn6;generalize (x.ds++[q]).length=n5 at *
     go_wp2_with (first
      | (refine wp_letS rfl 49 _ _ rfl (w3.heap.size) 6 rfl p5 n5 c5 rfl (by kernel_rfl) #[zI x.me,zI x.rv,zI x.nx,zI x.mo,zI x.bo,zI x.fr,.slice p3 len cap3] 51 H5n.o (by simp) ?_)
      | (refine zqw rfl rfl rfl H5d zqu51 ?_)
      | (refine zqw rfl rfl rfl H5e zqu70 ?_)
      | (refine zqw rfl rfl rfl H5r zqu51 ?_)
      | (refine zqw rfl rfl rfl H5n zqu51 ?_)
      | fail)
     intro W6 hU;have H6d:=shK hU H5d (by omega);have H6e:=shK hU H5e (by omega);have H6r:=shK hU H5r (by omega);have H6n:Hid (Blk W6 (w3.heap.size) #[zI x.me,zI x.rv,zI x.nx,zI x.mo,zI x.bo,zI x.fr,.slice p5 n5 c5] 51):=hU.blk;have H6B:=shV hU H5B (by omega);have H6F:Hid (deb.Fresh W6 w1.heap.size p5 n5 c5 (x.ds++[q])):=fresh_updN H5F.o hU HUNE.o;clear hU H5d H5e H5r H5n H5B H5F
     go_wp2_with (first
      | (refine zql rfl rfl rfl rfl zqu51 (by simp [Value.oneCell']) H6r rfl ?_)
      | (refine zqw rfl rfl rfl H6d zqu51 ?_)
      | (refine zqw rfl rfl rfl H6e zqu70 ?_)
      | (refine zqw rfl rfl rfl H6r zqu51 ?_)
      | (refine zqw rfl rfl rfl H6n zqu51 ?_)
      | fail)
     intro W7 hU;have H7r:Hid (Blk W7 (w.heap.size+1+1) #[zI x.me,zI x.rv,zI x.nx,zI x.mo,zI x.bo,zI x.fr,.slice p5 n5 c5] 51):=hU.blk;have H7B:=shV hU H6B (by omega);have H7F:Hid (deb.Fresh W7 w1.heap.size p5 n5 c5 (x.ds++[q])):=fresh_updN H6F.o hU HUNR.o;clear hU H6d H6e H6r H6n H6B H6F;obtain ⟨Rr0,Rr1,Rr2,Rr3,Rr4,Rr5,Rr6⟩:=shc7 H7r;go_wp2_with fail;exact bodyPost_ret (v:= .tuple #[.agg #[zI x.me,zI x.rv,zI x.nx,zI x.mo,zI x.bo,zI x.fr,.slice p5 n5 c5],zI 0]) (by simp [results,Tryz.results142,Rr0.o,Rr1.o,Rr2.o,Rr3.o,Rr4.o,Rr5.o,Rr6.o,go_sem]) rfl ⟨⟨x.me,x.rv,x.nx,x.mo,x.bo,x.fr,x.ds++[q]⟩,p5,n5,c5,_,rfl,HOV.o,H7F.o.low (by omega),H7B.o⟩
    ·have d3:decide (8≤(len:Int))=true:=decide_eq_true (by omega);have d4:decide (8≤len)=true:=decide_eq_true (by omega);have HV:Hid (OweIs x q ac0 16):= .inr (.inr (.inl ⟨HM.o,⟨h1,h2⟩,by rw [hlen];exact h3,rfl,rfl⟩));clear h3;have qd6:w1.cell? ⟨w.heap.size,6,none⟩=some (.slice p len cap):=H1d.o.cell 6
     go_wp2_with (first
      | (refine zql rfl rfl rfl rfl zqu51 (by simp [Value.oneCell']) H1r rfl ?_)
      | (refine zqw rfl rfl rfl H1d zqu51 ?_)
      | (refine zqw rfl rfl rfl H1e zqu70 ?_)
      | (refine zqw rfl rfl rfl H1r zqu51 ?_)
      | fail)
     intro w1a hU;have H2d:=shK hU H1d (by omega);have H2e:=shK hU H1e (by omega);have H2r:Hid (Blk w1a (w.heap.size+1+1) #[zI 0,zI 0,zI 0,zI 0,zI 0,zI 0,zS] 51):=hU.blk;have H2B:=shV hU H1B (by omega);have hsw1a:w1a.heap.size=w1.heap.size:=hU.size;clear hU H1d H1e H1r H1R H1B;obtain ⟨Rr0,Rr1,Rr2,Rr3,Rr4,Rr5,Rr6⟩:=shc7 H2r;go_wp2_with fail;exact bodyPost_ret (v:= .tuple #[.agg #[zI 0,zI 0,zI 0,zI 0,zI 0,zI 0,zS],zI 16]) (by simp [results,Tryz.results142,Rr0.o,Rr1.o,Rr2.o,Rr3.o,Rr4.o,Rr5.o,Rr6.o,go_sem]) rfl ⟨ac0,none,0,0,_,rfl,HV.o,deb.fresh_nil _ _,H2B.o⟩
   ·rw [decide_eq_false h2] at HI2;have HV:Hid (OweIs x q ac0 2):= .inr (.inl ⟨HM.o,fun hh=>h2 hh.2,rfl,rfl⟩);clear h2;have qe0:w1.cell? ⟨w.heap.size+1,0,none⟩=some (zI q.a):=H1e.o.cell 0;have qe1:w1.cell? ⟨w.heap.size+1,1,none⟩=some (zI q.b):=H1e.o.cell 1;go_wp2_with fail;refine (HI1.o _).mono ?_;rintro e wz ⟨rfl,hwz⟩;obtain rfl:w1=wz:=hwz.symm;go_wp2_with fail;refine (HI2.o _).mono ?_;rintro e wz ⟨rfl,hwz⟩;obtain rfl:w1=wz:=hwz.symm
    go_wp2_with (first
     | (refine zql rfl rfl rfl rfl zqu51 (by simp [Value.oneCell']) H1r rfl ?_)
     | (refine zqw rfl rfl rfl H1d zqu51 ?_)
     | (refine zqw rfl rfl rfl H1e zqu70 ?_)
     | (refine zqw rfl rfl rfl H1r zqu51 ?_)
     | fail)
    intro w1a hU;have H2d:=shK hU H1d (by omega);have H2e:=shK hU H1e (by omega);have H2r:Hid (Blk w1a (w.heap.size+1+1) #[zI 0,zI 0,zI 0,zI 0,zI 0,zI 0,zS] 51):=hU.blk;have H2B:=shV hU H1B (by omega);have hsw1a:w1a.heap.size=w1.heap.size:=hU.size;clear hU H1d H1e H1r H1R H1B;obtain ⟨Rr0,Rr1,Rr2,Rr3,Rr4,Rr5,Rr6⟩:=shc7 H2r;go_wp2_with fail;exact bodyPost_ret (v:= .tuple #[.agg #[zI 0,zI 0,zI 0,zI 0,zI 0,zI 0,zS],zI 2]) (by simp [results,Tryz.results142,Rr0.o,Rr1.o,Rr2.o,Rr3.o,Rr4.o,Rr5.o,Rr6.o,go_sem]) rfl ⟨ac0,none,0,0,_,rfl,HV.o,deb.fresh_nil _ _,H2B.o⟩
  ·rw [decide_eq_false h1] at HI1;have HV:Hid (OweIs x q ac0 2):= .inr (.inl ⟨HM.o,fun hh=>h1 hh.1,rfl,rfl⟩);clear h1;have qe0:w1.cell? ⟨w.heap.size+1,0,none⟩=some (zI q.a):=H1e.o.cell 0;go_wp2_with fail;refine (HI1.o _).mono ?_;rintro e wz ⟨rfl,hwz⟩;obtain rfl:w1=wz:=hwz.symm
   go_wp2_with (first
    | (refine zql rfl rfl rfl rfl zqu51 (by simp [Value.oneCell']) H1r rfl ?_)
    | fail)
   intro w1a hU;have H2d:=shK hU H1d (by omega);have H2e:=shK hU H1e (by omega);have H2r:Hid (Blk w1a (w.heap.size+1+1) #[zI 0,zI 0,zI 0,zI 0,zI 0,zI 0,zS] 51):=hU.blk;have H2B:=shV hU H1B (by omega);have hsw1a:w1a.heap.size=w1.heap.size:=hU.size;clear hU H1d H1e H1r H1R H1B;obtain ⟨Rr0,Rr1,Rr2,Rr3,Rr4,Rr5,Rr6⟩:=shc7 H2r;go_wp2_with fail;exact bodyPost_ret (v:= .tuple #[.agg #[zI 0,zI 0,zI 0,zI 0,zI 0,zI 0,zS],zI 2]) (by simp [results,Tryz.results142,Rr0.o,Rr1.o,Rr2.o,Rr3.o,Rr4.o,Rr5.o,Rr6.o,go_sem]) rfl ⟨ac0,none,0,0,_,rfl,HV.o,deb.fresh_nil _ _,H2B.o⟩
 ·have HM:Hid (¬ AMay x):=hm;obtain ⟨W0,HWW,H0d,H0e,H0r,H0B,hs0⟩:=sh3 w #[zI x.me,zI x.rv,zI x.nx,zI x.mo,zI x.bo,zI x.fr,.slice p len cap] 51 #[zI q.a,zI q.b] 70 #[zI 0,zI 0,zI 0,zI 0,zI 0,zI 0,zS] 51;have H0R:Hid (RowD W0 p len x.ds):=h.below H0B.o;go_enter Tryz.func142,Tryz.ntmps142;go_upto_region 1 with fail
  rw [HWW.o];clear HWW;have HAM:Hid (Calls Tryz.prog 173 #[.agg #[zI x.me,zI x.rv,zI x.nx,zI x.mo,zI x.bo,zI x.fr,.slice p len cap]] W0 fun e w'=>e = .returned (.bool false)∧Below W0.heap.size W0 w'):=ranot x p len cap _ H0R.o hl hm
  go_wp2_with (first
   | (refine zqw rfl rfl rfl H0d zqu51 ?_)
   | (refine zqw rfl rfl rfl H0e zqu70 ?_)
   | (refine zqw rfl rfl rfl H0r zqu51 ?_)
   | fail)
  refine HAM.o.mono ?_;rintro e w1 ⟨rfl,hb1⟩;have H1d:=shN H0d hb1;have H1e:=shN H0e hb1;have H1r:=shN H0r hb1;have H1R:Hid (RowD w1 p len x.ds):=H0R.o.below hb1;have H1B:=shB H0B hb1;have hsw1:W0.heap.size≤w1.heap.size:=hb1.size;clear hb1 H0d H0e H0r H0R H0B;clear HAM
  go_wp2_with (first
   | (refine zql rfl rfl rfl rfl zqu51 (by simp [Value.oneCell']) H1r rfl ?_)
   | (refine zqw rfl rfl rfl H1d zqu51 ?_)
   | (refine zqw rfl rfl rfl H1e zqu70 ?_)
   | (refine zqw rfl rfl rfl H1r zqu51 ?_)
   | fail)
  intro w1a hU;have H2d:=shK hU H1d (by omega);have H2e:=shK hU H1e (by omega);have H2r:Hid (Blk w1a (w.heap.size+1+1) #[zI 0,zI 0,zI 0,zI 0,zI 0,zI 0,zS] 51):=hU.blk;have H2B:=shV hU H1B (by omega);have hsw1a:w1a.heap.size=w1.heap.size:=hU.size;clear hU H1d H1e H1r H1R H1B;obtain ⟨Rr0,Rr1,Rr2,Rr3,Rr4,Rr5,Rr6⟩:=shc7 H2r;go_wp2_with fail;exact bodyPost_ret (v:= .tuple #[.agg #[zI 0,zI 0,zI 0,zI 0,zI 0,zI 0,zS],zI 5]) (by simp [results,Tryz.results142,Rr0.o,Rr1.o,Rr2.o,Rr3.o,Rr4.o,Rr5.o,Rr6.o,go_sem]) rfl ⟨ac0,none,0,0,_,rfl,.inl ⟨HM.o,rfl,rfl⟩,deb.fresh_nil _ _,H2B.o⟩
end acc
namespace book
open Go.RowKit
open acc (Ac Tm Bi APost BPost OweIs SellIs GrantIs RekeyIs)
theorem rhap5 (a:Ac) (sol:List So) (dp:Option Addr) (dn dc:Nat) (sp:Option Addr) (sn sc:Nat) (t:Tm) (pt:Option Addr) (lt ct:Nat) (v:Ev) (base:Nat) (w:World) (hx:Has w base (cuA a dp dn dc sp sn sc) ⟨a,sol⟩) (ht:tar.RowD w pt lt t.ts) (htl:lt≤maxLen) (hbase:base≤w.heap.size) (hkd:v.kd=5) :
  Calls Tryz.prog 100 #[.agg #[.slice pt lt ct,zI t.ff,zI t.fb,zI t.db,zI t.al],.agg #[zI a.me,zI a.rv,zI a.nx,zI a.mo,zI a.bo,zI a.fr,.slice dp dn dc,.slice sp sn sc],.agg #[zI v.kd,zI v.me,zI v.mo,zI v.id,zI v.te,zI v.de,zI v.fe,zI v.pr,zI v.ch,zI v.un,zI v.tg,zI v.ow,zI v.bp]] w fun e w'=>HapPost w base t (cuA a dp dn dc sp sn sc) ⟨a,sol⟩ v e w':=by
 have n5:(v.kd == 5)=true:=by simpa using hkd
 have HKD:Hid (v.kd=5):=hkd;clear hkd;have HB0:Hid (Below w.heap.size w w):=Below.refl _ _;have HH:Hid (Has w base (cuA a dp dn dc sp sn sc) ⟨a,sol⟩):=hx;have HBS:Hid (base≤w.heap.size):=hbase;have HOW:Hid (∀ W,Below w.heap.size w W→Calls Tryz.prog 142 #[.agg #[zI a.me,zI a.rv,zI a.nx,zI a.mo,zI a.bo,zI a.fr,.slice dp dn dc],.agg #[zI v.ow,zI v.bp]] W fun e w'=>APost W (OweIs a ⟨v.ow,v.bp⟩) e w'):=fun W hB=>acc.rowes a dp dn dc ⟨v.ow,v.bp⟩ W (hx.ds.came.below hB).row hx.ds.came.most;clear hx ht htl hbase;obtain ⟨W0,HWW,Ht4,Qx,Qv,Qr,HB4,hz0⟩:=sh4 w #[.slice pt lt ct,zI t.ff,zI t.fb,zI t.db,zI t.al] 24 #[zI a.me,zI a.rv,zI a.nx,zI a.mo,zI a.bo,zI a.fr,.slice dp dn dc,.slice sp sn sc] 54 #[zI v.kd,zI v.me,zI v.mo,zI v.id,zI v.te,zI v.de,zI v.fe,zI v.pr,zI v.ch,zI v.un,zI v.tg,zI v.ow,zI v.bp] 72 #[zI 0,zI 0,zI 0,zI 0,zI 0,zI 0,zS,zS] 54;go_enter Tryz.func100,Tryz.ntmps100;go_upto_region 1 with fail
 rw [HWW.o];clear HWW;have HS0:Hid (w.heap.size+1+1+1<W0.heap.size):=hz0;clear hz0;have kx0:W0.cell? ⟨w.heap.size+1,0,none⟩=some (zI a.me):=Qx.o.cell 0;have kx1:W0.cell? ⟨w.heap.size+1,1,none⟩=some (zI a.rv):=Qx.o.cell 1;have kx2:W0.cell? ⟨w.heap.size+1,2,none⟩=some (zI a.nx):=Qx.o.cell 2;have kx3:W0.cell? ⟨w.heap.size+1,3,none⟩=some (zI a.mo):=Qx.o.cell 3;have kx4:W0.cell? ⟨w.heap.size+1,4,none⟩=some (zI a.bo):=Qx.o.cell 4;have kx5:W0.cell? ⟨w.heap.size+1,5,none⟩=some (zI a.fr):=Qx.o.cell 5;have kx6:W0.cell? ⟨w.heap.size+1,6,none⟩=some (.slice dp dn dc):=Qx.o.cell 6;have kx7:W0.cell? ⟨w.heap.size+1,7,none⟩=some (.slice sp sn sc):=Qx.o.cell 7;have kv0:W0.cell? ⟨w.heap.size+1+1,0,none⟩=some (zI v.kd):=Qv.o.cell 0;have kv1:W0.cell? ⟨w.heap.size+1+1,1,none⟩=some (zI v.me):=Qv.o.cell 1;have kv2:W0.cell? ⟨w.heap.size+1+1,2,none⟩=some (zI v.mo):=Qv.o.cell 2;have kv3:W0.cell? ⟨w.heap.size+1+1,3,none⟩=some (zI v.id):=Qv.o.cell 3;have kv4:W0.cell? ⟨w.heap.size+1+1,4,none⟩=some (zI v.te):=Qv.o.cell 4;have kv5:W0.cell? ⟨w.heap.size+1+1,5,none⟩=some (zI v.de):=Qv.o.cell 5;have kv6:W0.cell? ⟨w.heap.size+1+1,6,none⟩=some (zI v.fe):=Qv.o.cell 6;have kv7:W0.cell? ⟨w.heap.size+1+1,7,none⟩=some (zI v.pr):=Qv.o.cell 7;have kv8:W0.cell? ⟨w.heap.size+1+1,8,none⟩=some (zI v.ch):=Qv.o.cell 8;have kv9:W0.cell? ⟨w.heap.size+1+1,9,none⟩=some (zI v.un):=Qv.o.cell 9;have kv10:W0.cell? ⟨w.heap.size+1+1,10,none⟩=some (zI v.tg):=Qv.o.cell 10;have kv11:W0.cell? ⟨w.heap.size+1+1,11,none⟩=some (zI v.ow):=Qv.o.cell 11;have kv12:W0.cell? ⟨w.heap.size+1+1,12,none⟩=some (zI v.bp):=Qv.o.cell 12;have HO1:Hid (Calls Tryz.prog 142 #[.agg #[zI a.me,zI a.rv,zI a.nx,zI a.mo,zI a.bo,zI a.fr,.slice dp dn dc],.agg #[zI v.ow,zI v.bp]] W0 fun e w'=>APost W0 (OweIs a ⟨v.ow,v.bp⟩) e w'):=HOW.o W0 HB4.o
 clear HOW;go_wp2_with fail;refine HO1.o.mono ?_;rintro e w1 ⟨b,pb,lb,cb,f,rfl,hi,hf,hb1⟩;have HI:Hid (OweIs a ⟨v.ow,v.bp⟩ b f):=hi;have Ht5:=shN Ht4 hb1;have Hx5:=shN Qx hb1;have Hv5:=shN Qv hb1;have Hr5:=shN Qr hb1;have HB5:=shB HB4 hb1;have HF1:Hid (deb.Fresh w1 W0.heap.size pb lb cb b.ds):=hf;have HW0:Hid (w.heap.size≤W0.heap.size):=HB4.o.size;clear hb1 hf hi HO1 kx0 kx1 kx2 kx3 kx4 kx5 kx6 kx7 kv0 kv1 kv2 kv3 kv4 kv5 kv6 kv7 kv8 kv9 kv10 kv11 kv12;unfold acc.Ac.v acc.Ac.cs;obtain ⟨W1,HWW,Ha6,HBB,-⟩:=sh1 w1 #[zI b.me,zI b.rv,zI b.nx,zI b.mo,zI b.bo,zI b.fr,.slice pb lb cb] 51;have Ht6:=shN Ht5 HBB.o;have Hx6:=shN Hx5 HBB.o;have Hv6:=shN Hv5 HBB.o;have Hr6:=shN Hr5 HBB.o;have HB6:=shB HB5 HBB.o;have HF2:Hid (deb.Fresh W1 W0.heap.size pb lb cb b.ds):=HF1.o.below HBB.o;go_upto_region 3 with fail
 rw [HWW.o];clear HWW HBB;generalize hga:w1.heap.size=ga at *;obtain ⟨ka0,ka1,ka2,ka3,ka4,ka5,ka6⟩:=scl7 Ha6;obtain ⟨kx0,kx1,kx2,kx3,kx4,kx5,kx6,kx7⟩:=scl8 Hx6;go_wp2_with (first | (refine zql rfl rfl rfl rfl zqu54 (by simp [Value.oneCell']) Hr6 rfl ?_) | fail)
 intro W2 hU;have HR2:Hid (Blk W2 (w.heap.size+1+1+1) #[zI b.me,zI b.rv,zI b.nx,zI b.mo,zI b.bo,zI b.fr,.slice pb lb cb,.slice sp sn sc] 54):=hU.blk;have HB9:=shV hU HB6 (by omega);have HUU:Hid (Upd W1 W2 (w.heap.size+1+1+1) #[zI b.me,zI b.rv,zI b.nx,zI b.mo,zI b.bo,zI b.fr,.slice pb lb cb,.slice sp sn sc] 54):=hU;clear hU ka0 ka1 ka2 ka3 ka4 ka5 ka6 kx0 kx1 kx2 kx3 kx4 kx5 kx6 kx7;obtain ⟨R0,R1,R2,R3,R4,R5,R6,R7⟩:=shc8 HR2
 have HFIN:Hid (HapPost w base t (cuA a dp dn dc sp sn sc) ⟨a,sol⟩ v (.returned (.tuple #[.agg #[zI b.me,zI b.rv,zI b.nx,zI b.mo,zI b.bo,zI b.fr,.slice pb lb cb,.slice sp sn sc],zI f])) W2):=by
  refine ⟨cuA b pb lb cb sp sn sc,⟨b,sol⟩,f,rfl,.inl ⟨HKD.o,b,HI.o,fun _=>rfl⟩,fun _=>?_,grown_of HB9.o _⟩;have hbl:0<lb→∀ y,pb=some y→W0.heap.size≤y.block:=HF2.o.new;refine ⟨grown_of HB9.o _,⟨cuA_num _ _ _ _ _ _ _,⟨?_,fun hn y hy=>?_⟩,HH.o.so.next HB9.o⟩,fun g hg=> .inl hg,fun hn y hy=>Nat.le_trans HW0.o (hbl hn y hy),fun g hg hn y hy q=>?_⟩
  ·refine acc_upd HF2.o.came HUU.o (fun hn y hy q=>?_);have h1:=hbl hn y hy;have h2:=HS0.o;omega
  ·have h1:=hbl hn y hy;have h2:=HW0.o;have h3:=HBS.o;omega
  ·have h1:=hbl hn y hy;have h2:=HW0.o;have h3:=(World.ownsRow.lt HH.o.so g hg).2;omega
 go_wp2_with fail;exact bodyPost_ret (v:= .tuple #[.agg #[zI b.me,zI b.rv,zI b.nx,zI b.mo,zI b.bo,zI b.fr,.slice pb lb cb,.slice sp sn sc],zI f]) (by simp [results,Tryz.results100,R0.o,R1.o,R2.o,R3.o,R4.o,R5.o,R6.o,R7.o,go_sem]) rfl HFIN.o
end book
end Go.Proofs.YtnpblpbohcegoaaGreatDoor
