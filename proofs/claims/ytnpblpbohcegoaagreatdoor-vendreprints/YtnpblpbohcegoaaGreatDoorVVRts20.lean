import Derived.Test.YtnpblpbohcegoaaGreatDoorVVRts19
set_option linter.unusedVariables false
set_option linter.unusedSimpArgs false
set_option maxHeartbeats 4000000
set_option maxRecDepth 100000
namespace Go.Proofs.YtnpblpbohcegoaaGreatDoor
namespace words
open Go.RowKit
theorem nf_upd (f:Nat→Nat) (i v:Nat):∀ n:Nat,i<n→nf (updU f i v) n+4294967296 ^ i*f i=nf f n+4294967296 ^ i*v
 | 0,h=>by omega
 | n+1,h=>by
  rw [nf,nf];by_cases e:i=n
  ·subst e;have e1:nf (updU f i v) i=nf f i:=nf_congr fun j hj=>by unfold updU;rw [if_neg (by omega)]
   have e2:updU f i v i=v:=by unfold updU;rw [if_pos rfl]
   rw [e1,e2];omega
  ·have:=nf_upd f i v n (by omega);have e2:updU f i v n=f n:=by unfold updU;rw [if_neg (by omega)]
   rw [e2];omega
theorem mul_step {F F2 N Q R c u x y Y q:Nat} (h:F+Q*R*c=N+Q*(x*Y)) (hq:q=c+(x*y+u)) (hu:F2+Q*R*u=F+Q*R*(q % 4294967296)) :
  F2+Q*R*4294967296*(q / 4294967296)=N+Q*(x*(Y+R*y)):=by
 have e:q % 4294967296+4294967296*(q / 4294967296)=q:=by omega
 have e2:Q*R*(q % 4294967296)+Q*R*4294967296*(q / 4294967296)=Q*R*c+Q*R*(x*y)+Q*R*u:=by
  rw [Nat.mul_assoc (Q*R),← Nat.mul_add,e,hq,Nat.mul_add,Nat.mul_add];omega
 have e3:Q*(x*(Y+R*y))=Q*(x*Y)+Q*R*(x*y):=by
  rw [Nat.mul_add,Nat.mul_add,Nat.mul_assoc Q R,Nat.mul_left_comm x R y]
 rw [e3];omega
theorem word_mul {x y:Nat} (hx:x<4294967296) (hy:y<4294967296):x*y≤18446744065119617025:=by
 have:x*y≤4294967295*4294967295:=Nat.mul_le_mul (by omega) (by omega);omega
theorem mul_some (a b:Option Addr) (n k ca cb:Nat) (la lb:List Nat) (w:World) (ha:Ru w a n ca la) (hbb:Ru w b k cb lb) (n0:0<n) (k0:0<k) (hn:n≤100) (hk:k≤100) :
  Calls Tryz.prog 148 #[.slice a n ca,.slice b k cb] w fun e w'=>Gives w (nv la*nv lb) e w':=by
 obtain ⟨i0,hi,hz0,hz1,hz2⟩:=info_parts info_u32;have HA:Hid (Ru w a n ca la):=ha;have HBB:Hid (Ru w b k cb lb):=hbb;have z1:((n:Int) == 0)=false:=beq_eq_false_iff_ne.2 (by omega);have z2:((k:Int) == 0)=false:=beq_eq_false_iff_ne.2 (by omega);clear ha hbb;go_enter Tryz.func148,Tryz.ntmps148
 go_wp2_with (first
  | (at_make;refine wpList_make_full _ rfl _ _ 25 rfl w.heap.size 99 i0 (.int .u32 0) 1 Tryz.underlying25 hi hz0 hz1 _ _ _ _ (n+k) rfl rfl ?c0 ?c1 ?c2 ?c3 ?c4 ?_))
 try (case c0=>first | rfl | (congr 1;omega))
 try (case c1=>first | rfl | (congr 1;omega))
 case c2=>first | omega | (rw [hz2];omega)
 case c3=>unfold maxLen;omega
 try (case c4=>simp)
 intro w1 hown hgr;have HR1:Hid (RowU w1 w.heap.size (n+k) (fun _=>0)):=rowU_made hown;have HB1:Hid (Below w.heap.size w w1):=(Below.refl _ _).grown hgr (Nat.le_refl _) (fun k hk=>by cases hk);clear hown hgr hi hz0 hz1 hz2;go_wp2_with fail;go_loopw [6] (fun iv wr=>∃ (i:Nat) (f:Nat→Nat),i≤n∧iv=zI i∧RowU wr w.heap.size (n+k) f∧(∀ j,j<n+k→f j<4294967296)∧Below w.heap.size w wr∧nf f (i+k)=nf (fun j=>la.getD j 0) i*nv lb) (fun iv _=>n - (intOf iv).toNat)
 case atStart=>exact ⟨0,fun _=>0,Nat.zero_le _,rfl,HR1.o,fun _ _=>(by decide:0<4294967296),HB1.o,by rw [nf_zero fun _ _=>rfl,nf,Nat.zero_mul]⟩
 case round=>
  obtain ⟨i,f,hin,rfl,hrow,hfb,hb,heq⟩:=hrel;by_cases hlt:i<n
  ·obtain ⟨x,hxx⟩:∃ x,la.getD i 0=x:=⟨_,rfl⟩
   have hx:x<4294967296:=by rw [← hxx];exact HA.o.word i
   have HX:Hid (la.getD i 0=x):=hxx
   have HAC:Hid (∀ wr,Below w.heap.size w wr→∃ ba oa,a=some ⟨ba,oa,none⟩∧wr.cell? ⟨ba,oa+i,none⟩=some (.int .u32 (x:Int))):=fun wr hb=>by
    obtain ⟨ba,oa,e,hc⟩:=(HA.o.below hb).at hlt;rw [hxx] at hc;exact ⟨ba,oa,e,hc⟩
   have HQ:Hid (nf f (i+k)=nf (fun j=>la.getD j 0) i*nv lb):=heq;have HRW:Hid (RowU wr w.heap.size (n+k) f∧(∀ j,j<n+k→f j<4294967296)∧Below w.heap.size w wr):=⟨hrow,hfb,hb⟩
   clear hxx hrow hfb hb heq;go_wp2_with fail
   go_loopw [7,8] (fun cv jv wr=>∃ (j c:Nat) (h:Nat→Nat),j≤k∧jv=zI j∧cv = .int .u64 c∧c<4294967296∧RowU wr w.heap.size (n+k) h∧(∀ t,t<n+k→h t<4294967296)∧Below w.heap.size w wr ∧
    nf h (i+k)+4294967296 ^ i*4294967296 ^ j*c=nf (fun j=>la.getD j 0) i*nv lb+4294967296 ^ i*(x*nf (fun j=>lb.getD j 0) j)) (fun _ jv _=>k - (intOf jv).toNat)
   case atStart=>exact ⟨0,0,f,Nat.zero_le _,rfl,rfl,by omega,HRW.o.1,HRW.o.2.1,HRW.o.2.2,by rw [HQ.o];simp [nf]⟩
   case round=>
    obtain ⟨j,c,h,hjk,rfl,rfl,hc,hrow,hfb,hb,heq⟩:=hrel;by_cases hlj:j<k
    ·obtain ⟨ba,oa,rfl,hca⟩:=HAC.o _ hb;obtain ⟨bb,ob,rfl,hcb⟩:=(HBB.o.below hb).at hlj;obtain ⟨y,hyy⟩:∃ y,lb.getD j 0=y:=⟨_,rfl⟩
     have hy:y<4294967296:=by rw [← hyy];exact HBB.o.word j
     have HY:Hid (lb.getD j 0=y):=hyy;rw [hyy] at hcb;obtain ⟨u,huu⟩:∃ u,h (i+j)=u:=⟨_,rfl⟩
     have hu:u<4294967296:=by rw [← huu];exact hfb _ (by omega)
     have r0:=hrow.cell (i:=i+j) (by omega);have f0:=hrow.free (i+j);rw [huu] at r0;have hxy:=word_mul hx hy;have e0:(c:Int)+((x:Int)*(y:Int)+(u:Int))=((c+(x*y+u):Nat):Int):=by rw [Int.natCast_add,Int.natCast_add,Int.natCast_mul]
     have p1:0≤(x:Int)*(y:Int):=Int.mul_nonneg (by omega) (by omega);have p2:(x:Int)*(y:Int)≤18446744065119617025:=by rw [← Int.natCast_mul];omega
     have hqb:c+(x*y+u)<18446744073709551616:=by omega
     have hup:=nf_upd h (i+j) ((c+(x*y+u)) % 4294967296) (i+k) (by omega);rw [huu,Nat.pow_add] at hup;have hst:=mul_step heq rfl hup;generalize hqq:c+(x*y+u)=q at *
     have HNX:Hid (nf (updU h (i+j) (q % 4294967296)) (i+k)+4294967296 ^ i*4294967296 ^ (j+1)*(q / 4294967296)=nf (fun j=>la.getD j 0) i*nv lb+4294967296 ^ i*(x*nf (fun j=>lb.getD j 0) (j+1))):=by
      have goal:nf (updU h (i+j) (q % 4294967296)) (i+k)+4294967296 ^ i*4294967296 ^ (j+1)*(q / 4294967296)=nf (fun j=>la.getD j 0) i*nv lb+4294967296 ^ i*(x*nf (fun j=>lb.getD j 0) (j+1)):=by
       rw [nf,Nat.pow_succ,← Nat.mul_assoc (4294967296 ^ i)];have hY:lb.getD j 0=y:=HY.o;rw [hY];exact hst
      exact goal
     have e1:((q:Nat):Int) % 4294967296=((q % 4294967296:Nat):Int):=by omega
     have e2:((q:Nat):Int) / 4294967296=((q / 4294967296:Nat):Int):=by omega
     have HN:Hid (RowU (wr.setCell ⟨w.heap.size,i+j,none⟩ (.int .u32 ((q % 4294967296:Nat):Int))) w.heap.size (n+k) (updU h (i+j) (q % 4294967296))):=hrow.set _ _;have HBN:Hid (Below w.heap.size w (wr.setCell ⟨w.heap.size,i+j,none⟩ (.int .u32 ((q % 4294967296:Nat):Int)))):=below_set hb _ _ _ (Nat.le_refl _)
     have HF:Hid (∀ t,t<n+k→updU h (i+j) (q % 4294967296) t<4294967296):=fun t ht=>by
      unfold updU;split
      ·omega
      ·exact hfb t ht
     have HC:Hid (q / 4294967296<4294967296):=(by omega:q / 4294967296<4294967296)
     clear hst heq hfb hup hyy huu hrow hb HX HAC HQ HRW hqq hxy;generalize q % 4294967296=v at *;generalize hcc:q / 4294967296=c2 at *;clear hcc;go_wp2_with fail;go_quiet (fail);go_wp2_with fail;go_roundw
     case rel=>exact ⟨j+1,c2,_,by omega,by go_num,rfl,HC.o,HN.o,HF.o,⟨HBN.o.os,HBN.o.tape,HBN.o.output,HBN.o.size,HBN.o.block⟩,HNX.o⟩
     case measure=>simp [intOf];omega
    ·obtain rfl:j=k:=by omega
     have r0:=hrow.cell (i:=i+j) (by omega);have f0:=hrow.free (i+j);obtain ⟨fi,hfi⟩:∃ fi:Int,((h (i+j):Nat):Int)=fi:=⟨_,rfl⟩
     rw [hfi] at r0;clear hfi;have e1:((c:Nat):Int) % 4294967296=((c:Nat):Int):=by omega
     have cb:(c:Int)<4294967296:=by omega
     have HN:Hid (RowU (wr.setCell ⟨w.heap.size,i+j,none⟩ (.int .u32 ((c:Nat):Int))) w.heap.size (n+j) (updU h (i+j) c)):=hrow.set _ _;have HBN:Hid (Below w.heap.size w (wr.setCell ⟨w.heap.size,i+j,none⟩ (.int .u32 ((c:Nat):Int)))):=below_set hb _ _ _ (Nat.le_refl _)
     have HF:Hid (∀ t,t<n+j→updU h (i+j) c t<4294967296):=fun t ht=>by
      unfold updU;split
      ·exact hc
      ·exact hfb t ht
     have HE:Hid (nf (updU h (i+j) c) (i+1+j)=nf (fun j=>la.getD j 0) (i+1)*nv lb):=by
      have e3:nf (updU h (i+j) c) (i+j)=nf h (i+j):=nf_congr fun t ht=>by unfold updU;rw [if_neg (by omega)]
      have e4:updU h (i+j) c (i+j)=c:=by unfold updU;rw [if_pos rfl]
      have e5:nv lb=nf (fun j=>lb.getD j 0) j:=nv_more lb (by rw [HBB.o.len];exact Nat.le_refl _)
      have goal:nf (updU h (i+j) c) (i+1+j)=nf (fun j=>la.getD j 0) (i+1)*nv lb:=by
       rw [show i+1+j=(i+j)+1 by omega,nf,nf,e3,e4,Nat.pow_add,heq,← e5,Nat.add_mul];have hX:la.getD i 0=x:=HX.o;rw [hX,Nat.mul_assoc]
      exact goal
     clear hrow hfb hb heq hlj HX HAC HQ HRW;go_wp2_with fail;go_roundw
     case rel=>exact ⟨i+1,_,by omega,by go_num,HN.o,HF.o,HBN.o,HE.o⟩
     case measure=>simp [intOf];omega
  ·obtain rfl:i=n:=by omega
   have HN:Hid (Ru wr (some ⟨w.heap.size,0,none⟩) (i+k) (i+k) ((List.range (i+k)).map f)):=hrow.ru hfb;have HB:Hid (Below w.heap.size w wr):=hb
   have HE:Hid (nv ((List.range (i+k)).map f)=nv la*nv lb):=by
    have goal:nv ((List.range (i+k)).map f)=nv la*nv lb:=by
     rw [nv_range,heq,← nv_more la (by rw [HA.o.len];exact Nat.le_refl _)]
    exact goal
   clear hrow hfb hb heq hlt;go_wp2_with fail;refine (trim_any _ _ _ _ _ HN.o (by omega)).mono ?_;rintro e w3 ⟨a3,n3,c3,rfl,hr3,hb3⟩;rw [HE.o] at hr3;have HG:Hid (Gives w (nv la*nv lb) (.returned (.slice a3 n3 c3)) w3):=Gives.mk hr3 (HB.o.trans (hb3.mono HB.o.size));clear hr3 hb3;go_wp2_with fail;go_ret;exact HG.o
theorem ru_nil (w:World):Ru w none 0 0 []:=⟨rfl,fun x hx=>(by cases hx),fun _=>rfl,Nat.le_refl _,.inl rfl,fun _ _ _ e _=>by cases e⟩
theorem mul_any (a b:Option Addr) (n k ca cb:Nat) (la lb:List Nat) (w:World) (ha:Ru w a n ca la) (hbb:Ru w b k cb lb) (hn:n≤100) (hk:k≤100) :
  Calls Tryz.prog 148 #[.slice a n ca,.slice b k cb] w fun e w'=>Gives w (nv la*nv lb) e w':=by
 by_cases n0:n=0
 ·subst n0;have el:la=[]:=List.eq_nil_of_length_eq_zero ha.len;have e:nv la*nv lb=0:=by rw [el];simp [nv]
  rw [e];have HG:Hid (Gives w 0 (.returned (zS)) w):=Gives.mk (by rw [dig_zero];exact ru_nil w) (Below.refl _ _);clear ha hbb el e;go_enter Tryz.func148,Tryz.ntmps148;go_wp2_with fail;go_ret;exact HG.o
 ·by_cases k0:k=0
  ·subst k0;have el:lb=[]:=List.eq_nil_of_length_eq_zero hbb.len;have e:nv la*nv lb=0:=by rw [el];simp [nv]
   rw [e];have z1:((n:Int) == 0)=false:=beq_eq_false_iff_ne.2 (by omega);have HG:Hid (Gives w 0 (.returned (zS)) w):=Gives.mk (by rw [dig_zero];exact ru_nil w) (Below.refl _ _);clear ha hbb el e;go_enter Tryz.func148,Tryz.ntmps148;go_wp2_with fail;go_ret;exact HG.o
  ·exact mul_some a b n k ca cb la lb w ha hbb (by omega) (by omega) hn hk
theorem Bg.parts {w:World} {z m:Nat} (h:Bg w z m):∃ a n c,w.cell? ⟨z,0,none⟩=some (.bool false)∧w.cell? ⟨z,1,none⟩=some (.slice a n c)∧Ru w a n c (dig m):=by
 obtain ⟨a,n,c,h1,h2⟩:=h;obtain ⟨c0,c1,_,_⟩:=ob_cells h1;exact ⟨a,n,c,c0,c1,h2⟩
def OpPost (w:World) (z r:Nat) (e:Ending) (w':World):Prop:=e = .returned (.pointer (some ⟨z,0,none⟩))∧Bg w' z r∧Ex w w' z
theorem cell_bel {w w1:World} {p:Addr} {v:Value} (hb:Below w.heap.size w w1) (h:w.cell? p=some v):w1.cell? p=some v:=(hb.cell (World.block_lt_of_cell? w p h)).trans h
theorem cell_ex {w w1:World} {z y i:Nat} {v:Value} (he:Ex w w1 z) (h:w.cell? ⟨y,i,none⟩=some v) (hne:y≠z):w1.cell? ⟨y,i,none⟩=some v:=
 (World.cell?_of_block (w:=w) (a:=⟨y,i,none⟩) (he.block y (World.block_lt_of_cell? w _ h) hne)).trans h
theorem neg_ex {w w1:World} {z x:Nat} {v u:Value} (he:Ex w w1 z) (hz:w1.heap[z]?=some (.cells #[.bool false,u] 240 (0,0))) (h:w.cell? ⟨x,0,none⟩=some v) (hv:v = .bool false):w1.cell? ⟨x,0,none⟩=some (.bool false):=by
 subst hv;by_cases e:x=z
 ·subst e;exact (ob_cells hz).1
 ·exact cell_ex he h e
def SumGives (w:World) (m:Nat) (e:Ending) (w':World):Prop:=∃ a n cap,e = .returned (.tuple #[.bool false,.slice a n cap])∧Ru w' a n cap (dig m)∧Below w.heap.size w w'
theorem SumGives.mk {w w':World} {m n cap:Nat} {a:Option Addr} (h1:Ru w' a n cap (dig m)) (h2:Below w.heap.size w w'):SumGives w m (.returned (.tuple #[.bool false,.slice a n cap])) w':=⟨a,n,cap,rfl,h1,h2⟩
theorem sum_plus (a b:Option Addr) (n k ca cb:Nat) (la lb:List Nat) (w:World) (ha:Ru w a n ca la) (hb:Ru w b k cb lb) (hn:n≤100) (hk:k≤100) :
  Calls Tryz.prog 149 #[.bool false,.slice a n ca,.bool false,.slice b k cb] w fun e w'=>SumGives w (nv la+nv lb) e w':=by
 have hq:(false == false)=true:=rfl;have HA:Hid (Calls Tryz.prog 181 #[.slice a n ca,.slice b k cb] w fun e w'=>Gives w (nv la+nv lb) e w'):=add_any a b n k ca cb la lb w ha hb hn hk;clear ha hb;go_enter Tryz.func149,Tryz.ntmps149;go_wp2_with fail;refine HA.o.mono ?_;rintro e w1 ⟨a3,n3,c3,rfl,hr,hb⟩;have HG:Hid (SumGives w (nv la+nv lb) (.returned (.tuple #[.bool false,.slice a3 n3 c3])) w1):=SumGives.mk hr hb;clear hr hb;go_wp2_with fail;go_ret2;exact HG.o
theorem Mul_any (z x y m k:Nat) (w:World) (hx:Bg w x m) (hy:Bg w y k) (hz:Ob w z) (hyz:y≠z) (hm:(dig m).length≤100) (hk:(dig k).length≤100) :
  Calls Tryz.prog 104 #[.pointer (some ⟨z,0,none⟩),.pointer (some ⟨x,0,none⟩),.pointer (some ⟨y,0,none⟩)] w fun e w'=>OpPost w z (m*k) e w':=by
 obtain ⟨xa,xn,xc,x0,x1,xr⟩:=hx.parts;obtain ⟨ya,yn,yc,y0,y1,yr⟩:=hy.parts;have hne:(false != false)=false:=rfl
 have HM:Hid (∀ w',Below w.heap.size w w'→Calls Tryz.prog 148 #[.slice xa xn xc,.slice ya yn yc] w' fun e w''=>Gives w' (m*k) e w''):=fun w' hb=>by
  have:=mul_any xa ya xn yn xc yc _ _ w' (xr.below hb) (yr.below hb) (by rw [← xr.len];exact hm) (by rw [← yr.len];exact hk)
  rwa [nv_dig,nv_dig] at this
 have HZ:Hid (Ob w z):=hz;have KW:Hid (Below w.heap.size w w.drew):=(Below.refl _ w).drew;have KS:Hid (w.drew.cell? ⟨x,0,none⟩=some (.bool false)∧w.drew.cell? ⟨y,0,none⟩=some (.bool false)∧w.drew.cell? ⟨y,1,none⟩=some (.slice ya yn yc)):=⟨x0,y0,y1⟩
 clear hx hy hz xr yr hm hk;go_enter Tryz.func104,Tryz.ntmps104;go_wp2_with fail;refine wp_region_held_drew (S:=fun w1=>w1.cell? ⟨x,0,none⟩=some (.bool false)∧w1.cell? ⟨y,0,none⟩=some (.bool false)∧w1.cell? ⟨y,1,none⟩=some (.slice ya yn yc)) (by kernel_rfl) KS.o ?_;intro hS0;refine wpAnyH_take (i:=0) (v:=?v1) rfl (by kernel_rfl) (by kernel_rfl) (by kernel_rfl) zid (Or.inl ⟨by rfl,?y1⟩) (by assumption) ?_
 case y1=>(intro w hSw;(try dsimp only at hSw);go_simp;try (with_reducible rfl))
 try simp only [Act.put]
 try simp only [List.setIfInBounds_toArray]
 try simp only [List.set_cons_succ]
 try simp only [List.set_cons_zero]
 refine wpAnyH_take (i:=1) (v:=?v2) rfl (by kernel_rfl) (by kernel_rfl) (by kernel_rfl) zid (Or.inl ⟨by rfl,?y2⟩) (by assumption) ?_
 case y2=>(intro w hSw;(try dsimp only at hSw);go_simp;try (with_reducible rfl))
 try simp only [Act.put]
 try simp only [List.setIfInBounds_toArray]
 try simp only [List.set_cons_succ]
 try simp only [List.set_cons_zero]
 refine wpAnyH_take (i:=2) (v:=?v3) rfl (by kernel_rfl) (by kernel_rfl) (by kernel_rfl) zid (Or.inl ⟨by rfl,?y3⟩) (by assumption) ?_
 case y3=>(intro w hSw;(try dsimp only at hSw);go_simp;try (with_reducible rfl))
 try simp only [Act.put]
 try simp only [List.setIfInBounds_toArray]
 try simp only [List.set_cons_succ]
 try simp only [List.set_cons_zero]
 refine wpAnyH_take (i:=3) (v:=?v4) rfl (by kernel_rfl) (by kernel_rfl) (by kernel_rfl) zid (Or.inl ⟨by rfl,?y4⟩) (by assumption) ?_
 case y4=>(intro w hSw;(try dsimp only at hSw);go_simp;try (with_reducible rfl))
 try simp only [Act.put]
 try simp only [List.setIfInBounds_toArray]
 try simp only [List.set_cons_succ]
 try simp only [List.set_cons_zero]
 refine wpAnyH_take (i:=4) (v:=?v5) rfl (by kernel_rfl) (by kernel_rfl) (by kernel_rfl) zid (Or.inl ⟨by rfl,?y5⟩) (by assumption) ?_
 case y5=>(intro w hSw;(try dsimp only at hSw);go_simp;try (with_reducible rfl))
 try simp only [Act.put]
 try simp only [List.setIfInBounds_toArray]
 try simp only [List.set_cons_succ]
 try simp only [List.set_cons_zero]
 refine wpAnyH_take (i:=5) (v:=?v6) rfl (by kernel_rfl) (by kernel_rfl) (by kernel_rfl) zid (Or.inl ⟨by rfl,?y6⟩) (by assumption) ?_
 case y6=>(intro w hSw;(try dsimp only at hSw);go_simp;try (with_reducible rfl))
 try simp only [Act.put]
 try simp only [List.setIfInBounds_toArray]
 try simp only [List.set_cons_succ]
 try simp only [List.set_cons_zero]
 refine wpAnyH_take (i:=6) (v:=?v7) rfl (by kernel_rfl) (by kernel_rfl) (by kernel_rfl) zid (Or.inl ⟨by rfl,?y7⟩) (by assumption) ?_
 case y7=>(intro w hSw;(try dsimp only at hSw);go_simp;try (with_reducible rfl))
 try simp only [Act.put]
 try simp only [List.setIfInBounds_toArray]
 try simp only [List.set_cons_succ]
 try simp only [List.set_cons_zero]
 refine wpAnyH_take (i:=7) (v:=?v8) rfl (by kernel_rfl) (by kernel_rfl) (by kernel_rfl) zid (Or.inl ⟨by rfl,?y8⟩) (by assumption) ?_
 case y8=>(intro w hSw;(try dsimp only at hSw);go_simp;try (with_reducible rfl))
 try simp only [Act.put]
 try simp only [List.setIfInBounds_toArray]
 try simp only [List.set_cons_succ]
 try simp only [List.set_cons_zero]
 refine wpAnyH_take (i:=8) (v:=?v9) rfl (by kernel_rfl) (by kernel_rfl) (by kernel_rfl) zid (Or.inl ⟨by rfl,?y9⟩) (by assumption) ?_
 case y9=>(intro w hSw;(try dsimp only at hSw);go_simp;try (with_reducible rfl))
 try simp only [Act.put]
 try simp only [List.setIfInBounds_toArray]
 try simp only [List.set_cons_succ]
 try simp only [List.set_cons_zero]
 refine wpAnyH_take (i:=9) (v:=?v10) rfl (by kernel_rfl) (by kernel_rfl) (by kernel_rfl) zid (Or.inl ⟨by rfl,?y10⟩) (by assumption) ?_
 case y10=>(intro w hSw;(try dsimp only at hSw);go_simp;try (with_reducible rfl))
 try simp only [Act.put]
 try simp only [List.setIfInBounds_toArray]
 try simp only [List.set_cons_succ]
 try simp only [List.set_cons_zero]
 refine wpAnyH_take (i:=10) (v:=?v11) rfl (by kernel_rfl) (by kernel_rfl) (by kernel_rfl) zid (Or.inl ⟨by rfl,?y11⟩) (by assumption) ?_
 case y11=>(intro w hSw;(try dsimp only at hSw);go_simp;try (with_reducible rfl))
 try simp only [Act.put]
 try simp only [List.setIfInBounds_toArray]
 try simp only [List.set_cons_succ]
 try simp only [List.set_cons_zero]
 refine wpAnyH_take (i:=11) (v:=?v12) rfl (by kernel_rfl) (by kernel_rfl) (by kernel_rfl) zid (Or.inl ⟨by rfl,?y12⟩) (by assumption) ?_
 case y12=>(intro w hSw;(try dsimp only at hSw);go_simp;try (with_reducible rfl))
 try simp only [Act.put]
 try simp only [List.setIfInBounds_toArray]
 try simp only [List.set_cons_succ]
 try simp only [List.set_cons_zero]
 refine wpAnyH_take (i:=12) (v:=?v13) rfl (by kernel_rfl) (by kernel_rfl) (by kernel_rfl) zid (Or.inl ⟨by rfl,?y13⟩) (by assumption) ?_
 case y13=>(intro w hSw;(try dsimp only at hSw);go_simp;try (with_reducible rfl))
 try simp only [Act.put]
 try simp only [List.setIfInBounds_toArray]
 try simp only [List.set_cons_succ]
 try simp only [List.set_cons_zero]
 refine wpAnyH_take (i:=14) (v:=?v14) rfl (by kernel_rfl) (by kernel_rfl) (by kernel_rfl) zid (Or.inl ⟨by rfl,?y14⟩) (by assumption) ?_
 case y14=>(intro w hSw;(try dsimp only at hSw);go_simp;try (with_reducible rfl))
 try simp only [Act.put]
 try simp only [List.setIfInBounds_toArray]
 try simp only [List.set_cons_succ]
 try simp only [List.set_cons_zero]
 refine wpAnyH_take (i:=15) (v:=?v15) rfl (by kernel_rfl) (by kernel_rfl) (by kernel_rfl) zid (Or.inl ⟨by rfl,?y15⟩) (by assumption) ?_
 case y15=>(intro w hSw;(try dsimp only at hSw);go_simp;try (with_reducible rfl))
 try simp only [Act.put]
 try simp only [List.setIfInBounds_toArray]
 try simp only [List.set_cons_succ]
 try simp only [List.set_cons_zero]
 refine wpAnyH_take (i:=16) (v:=?v16) rfl (by kernel_rfl) (by kernel_rfl) (by kernel_rfl) zid (Or.inl ⟨by rfl,?y16⟩) (by assumption) ?_
 case y16=>(intro w hSw;(try dsimp only at hSw);go_simp;try (with_reducible rfl))
 try simp only [Act.put]
 try simp only [List.setIfInBounds_toArray]
 try simp only [List.set_cons_succ]
 try simp only [List.set_cons_zero]
 refine wpAnyH_take (i:=17) (v:=?v17) rfl (by kernel_rfl) (by kernel_rfl) (by kernel_rfl) zid (Or.inl ⟨by rfl,?y17⟩) (by assumption) ?_
 case y17=>(intro w hSw;(try dsimp only at hSw);go_simp;try (with_reducible rfl))
 try simp only [Act.put]
 try simp only [List.setIfInBounds_toArray]
 try simp only [List.set_cons_succ]
 try simp only [List.set_cons_zero]
 refine wpAnyH_ready (rs:=[13]) (by kernel_rfl) (by simp) ?_;refine AllReadyH.cons rfl (fun K hK=>?_) AllReadyH.nil;go_simp;refine hK.o _ _ KS.o (fun hHeld=>?_);clear hK K;refine wpAnyH_ready (rs:=[18]) (by kernel_rfl) (by simp) ?_;refine AllReadyH.cons rfl (fun K hK=>?_) AllReadyH.nil;go_simp;go_wp2_with fail;refine (HM.o _ KW.o).mono ?_;rintro e w1 ⟨ra,rn,rc,rfl,hr,hb⟩;have B1:=shB KW hb;have K1:Hid (w1.cell? ⟨x,0,none⟩=some (.bool false)∧w1.cell? ⟨y,0,none⟩=some (.bool false)∧w1.cell? ⟨y,1,none⟩=some (.slice ya yn yc)):=⟨cell_bel hb KS.o.1,cell_bel hb KS.o.2.1,cell_bel hb KS.o.2.2⟩
 have R1:Hid (Ru w1 ra rn rc (dig (m*k))):=hr;clear hb hr
 try go_simp
 refine hK.o _ _ K1.o (fun hHeld=>?_);clear hK K;refine wpAnyH_ready (rs:=[19]) (by kernel_rfl) (by simp) ?_;refine AllReadyH.cons rfl (fun K hK=>?_) AllReadyH.nil;go_simp;go_wp2_with fail;refine (give_any z _ _ _ _ (HZ.o.below B1.o)).mono ?_;rintro e w2 ⟨rfl,h2,hex⟩;have K2:Hid (w2.cell? ⟨x,0,none⟩=some (.bool false)∧w2.cell? ⟨y,0,none⟩=some (.bool false)∧w2.cell? ⟨y,1,none⟩=some (.slice ya yn yc)):=⟨neg_ex hex h2 K1.o.1 rfl,cell_ex hex K1.o.2.1 hyz,cell_ex hex K1.o.2.2 hyz⟩
 have F2:Hid (Bg w2 z (m*k)∧Ex w w2 z):=⟨⟨_,_,_,h2,R1.o.ex (HZ.o.below B1.o) hex⟩,Ex.of B1.o hex⟩
 clear h2 hex
 try go_simp
 refine hK.o _ _ K2.o (fun hHeld=>?_);clear hK K;refine wpAnyH_ready (rs:=[20]) (by kernel_rfl) (by simp) ?_;refine AllReadyH.cons rfl (fun K hK=>?_) AllReadyH.nil;go_simp;refine hK.o _ _ K2.o (fun hHeld=>?_);clear hK K;refine wpAnyH_done (by kernel_rfl) ?_ _;go_wp2_with fail;go_ret;exact ⟨rfl,F2.o.1,F2.o.2⟩
theorem Add_any (z x y m k:Nat) (w:World) (hx:Bg w x m) (hy:Bg w y k) (hz:Ob w z) (hyz:y≠z) (hm:(dig m).length≤100) (hk:(dig k).length≤100) :
  Calls Tryz.prog 105 #[.pointer (some ⟨z,0,none⟩),.pointer (some ⟨x,0,none⟩),.pointer (some ⟨y,0,none⟩)] w fun e w'=>OpPost w z (m+k) e w':=by
 obtain ⟨xa,xn,xc,x0,x1,xr⟩:=hx.parts;obtain ⟨ya,yn,yc,y0,y1,yr⟩:=hy.parts;have hne:(false != false)=false:=rfl
 have HM:Hid (∀ w',Below w.heap.size w w'→Calls Tryz.prog 149 #[.bool false,.slice xa xn xc,.bool false,.slice ya yn yc] w' fun e w''=>SumGives w' (m+k) e w''):=fun w' hb=>by
  have:=sum_plus xa ya xn yn xc yc _ _ w' (xr.below hb) (yr.below hb) (by rw [← xr.len];exact hm) (by rw [← yr.len];exact hk)
  rwa [nv_dig,nv_dig] at this
 have HZ:Hid (Ob w z):=hz;have KW:Hid (Below w.heap.size w w.drew):=(Below.refl _ w).drew;have KS:Hid (w.drew.cell? ⟨x,0,none⟩=some (.bool false)∧w.drew.cell? ⟨y,0,none⟩=some (.bool false)∧w.drew.cell? ⟨y,1,none⟩=some (.slice ya yn yc)):=⟨x0,y0,y1⟩
 clear hx hy hz xr yr hm hk;go_enter Tryz.func105,Tryz.ntmps105;go_wp2_with fail;refine wp_region_held_drew (S:=fun w1=>w1.cell? ⟨x,0,none⟩=some (.bool false)∧w1.cell? ⟨y,0,none⟩=some (.bool false)∧w1.cell? ⟨y,1,none⟩=some (.slice ya yn yc)) (by kernel_rfl) KS.o ?_;intro hS0;refine wpAnyH_take (i:=0) (v:=?v18) rfl (by kernel_rfl) (by kernel_rfl) (by kernel_rfl) zid (Or.inl ⟨by rfl,?y18⟩) (by assumption) ?_
 case y18=>(intro w hSw;(try dsimp only at hSw);go_simp;try (with_reducible rfl))
 try simp only [Act.put]
 try simp only [List.setIfInBounds_toArray]
 try simp only [List.set_cons_succ]
 try simp only [List.set_cons_zero]
 refine wpAnyH_take (i:=1) (v:=?v19) rfl (by kernel_rfl) (by kernel_rfl) (by kernel_rfl) zid (Or.inl ⟨by rfl,?y19⟩) (by assumption) ?_
 case y19=>(intro w hSw;(try dsimp only at hSw);go_simp;try (with_reducible rfl))
 try simp only [Act.put]
 try simp only [List.setIfInBounds_toArray]
 try simp only [List.set_cons_succ]
 try simp only [List.set_cons_zero]
 refine wpAnyH_take (i:=2) (v:=?v20) rfl (by kernel_rfl) (by kernel_rfl) (by kernel_rfl) zid (Or.inl ⟨by rfl,?y20⟩) (by assumption) ?_
 case y20=>(intro w hSw;(try dsimp only at hSw);go_simp;try (with_reducible rfl))
 try simp only [Act.put]
 try simp only [List.setIfInBounds_toArray]
 try simp only [List.set_cons_succ]
 try simp only [List.set_cons_zero]
 refine wpAnyH_take (i:=3) (v:=?v21) rfl (by kernel_rfl) (by kernel_rfl) (by kernel_rfl) zid (Or.inl ⟨by rfl,?y21⟩) (by assumption) ?_
 case y21=>(intro w hSw;(try dsimp only at hSw);go_simp;try (with_reducible rfl))
 try simp only [Act.put]
 try simp only [List.setIfInBounds_toArray]
 try simp only [List.set_cons_succ]
 try simp only [List.set_cons_zero]
 refine wpAnyH_take (i:=4) (v:=?v22) rfl (by kernel_rfl) (by kernel_rfl) (by kernel_rfl) zid (Or.inl ⟨by rfl,?y22⟩) (by assumption) ?_
 case y22=>(intro w hSw;(try dsimp only at hSw);go_simp;try (with_reducible rfl))
 try simp only [Act.put]
 try simp only [List.setIfInBounds_toArray]
 try simp only [List.set_cons_succ]
 try simp only [List.set_cons_zero]
 refine wpAnyH_take (i:=5) (v:=?v23) rfl (by kernel_rfl) (by kernel_rfl) (by kernel_rfl) zid (Or.inl ⟨by rfl,?y23⟩) (by assumption) ?_
 case y23=>(intro w hSw;(try dsimp only at hSw);go_simp;try (with_reducible rfl))
 try simp only [Act.put]
 try simp only [List.setIfInBounds_toArray]
 try simp only [List.set_cons_succ]
 try simp only [List.set_cons_zero]
 refine wpAnyH_take (i:=6) (v:=?v24) rfl (by kernel_rfl) (by kernel_rfl) (by kernel_rfl) zid (Or.inl ⟨by rfl,?y24⟩) (by assumption) ?_
 case y24=>(intro w hSw;(try dsimp only at hSw);go_simp;try (with_reducible rfl))
 try simp only [Act.put]
 try simp only [List.setIfInBounds_toArray]
 try simp only [List.set_cons_succ]
 try simp only [List.set_cons_zero]
 refine wpAnyH_take (i:=7) (v:=?v25) rfl (by kernel_rfl) (by kernel_rfl) (by kernel_rfl) zid (Or.inl ⟨by rfl,?y25⟩) (by assumption) ?_
 case y25=>(intro w hSw;(try dsimp only at hSw);go_simp;try (with_reducible rfl))
 try simp only [Act.put]
 try simp only [List.setIfInBounds_toArray]
 try simp only [List.set_cons_succ]
 try simp only [List.set_cons_zero]
 refine wpAnyH_take (i:=9) (v:=?v26) rfl (by kernel_rfl) (by kernel_rfl) (by kernel_rfl) zid (Or.inl ⟨by rfl,?y26⟩) (by assumption) ?_
 case y26=>(intro w hSw;(try dsimp only at hSw);go_simp;try (with_reducible rfl))
 try simp only [Act.put]
 try simp only [List.setIfInBounds_toArray]
 try simp only [List.set_cons_succ]
 try simp only [List.set_cons_zero]
 refine wpAnyH_take (i:=10) (v:=?v27) rfl (by kernel_rfl) (by kernel_rfl) (by kernel_rfl) zid (Or.inl ⟨by rfl,?y27⟩) (by assumption) ?_
 case y27=>(intro w hSw;(try dsimp only at hSw);go_simp;try (with_reducible rfl))
 try simp only [Act.put]
 try simp only [List.setIfInBounds_toArray]
 try simp only [List.set_cons_succ]
 try simp only [List.set_cons_zero]
 refine wpAnyH_take (i:=11) (v:=?v28) rfl (by kernel_rfl) (by kernel_rfl) (by kernel_rfl) zid (Or.inl ⟨by rfl,?y28⟩) (by assumption) ?_
 case y28=>(intro w hSw;(try dsimp only at hSw);go_simp;try (with_reducible rfl))
 try simp only [Act.put]
 try simp only [List.setIfInBounds_toArray]
 try simp only [List.set_cons_succ]
 try simp only [List.set_cons_zero]
 refine wpAnyH_take (i:=12) (v:=?v29) rfl (by kernel_rfl) (by kernel_rfl) (by kernel_rfl) zid (Or.inl ⟨by rfl,?y29⟩) (by assumption) ?_
 case y29=>(intro w hSw;(try dsimp only at hSw);go_simp;try (with_reducible rfl))
 try simp only [Act.put]
 try simp only [List.setIfInBounds_toArray]
 try simp only [List.set_cons_succ]
 try simp only [List.set_cons_zero]
 refine wpAnyH_take (i:=13) (v:=?v30) rfl (by kernel_rfl) (by kernel_rfl) (by kernel_rfl) zid (Or.inl ⟨by rfl,?y30⟩) (by assumption) ?_
 case y30=>(intro w hSw;(try dsimp only at hSw);go_simp;try (with_reducible rfl))
 try simp only [Act.put]
 try simp only [List.setIfInBounds_toArray]
 try simp only [List.set_cons_succ]
 try simp only [List.set_cons_zero]
 refine wpAnyH_take (i:=14) (v:=?v31) rfl (by kernel_rfl) (by kernel_rfl) (by kernel_rfl) zid (Or.inl ⟨by rfl,?y31⟩) (by assumption) ?_
 case y31=>(intro w hSw;(try dsimp only at hSw);go_simp;try (with_reducible rfl))
 try simp only [Act.put]
 try simp only [List.setIfInBounds_toArray]
 try simp only [List.set_cons_succ]
 try simp only [List.set_cons_zero]
 refine wpAnyH_take (i:=15) (v:=?v32) rfl (by kernel_rfl) (by kernel_rfl) (by kernel_rfl) zid (Or.inl ⟨by rfl,?y32⟩) (by assumption) ?_
 case y32=>(intro w hSw;(try dsimp only at hSw);go_simp;try (with_reducible rfl))
 try simp only [Act.put]
 try simp only [List.setIfInBounds_toArray]
 try simp only [List.set_cons_succ]
 try simp only [List.set_cons_zero]
 refine wpAnyH_take (i:=16) (v:=?v33) rfl (by kernel_rfl) (by kernel_rfl) (by kernel_rfl) zid (Or.inl ⟨by rfl,?y33⟩) (by assumption) ?_
 case y33=>(intro w hSw;(try dsimp only at hSw);go_simp;try (with_reducible rfl))
 try simp only [Act.put]
 try simp only [List.setIfInBounds_toArray]
 try simp only [List.set_cons_succ]
 try simp only [List.set_cons_zero]
 refine wpAnyH_ready (rs:=[8]) (by kernel_rfl) (by simp) ?_;refine AllReadyH.cons rfl (fun K hK=>?_) AllReadyH.nil;go_simp;refine hK.o _ _ KS.o (fun hHeld=>?_);clear hK K;refine wpAnyH_ready (rs:=[17]) (by kernel_rfl) (by simp) ?_;refine AllReadyH.cons rfl (fun K hK=>?_) AllReadyH.nil;go_simp;go_wp2_with fail;refine (HM.o _ KW.o).mono ?_;rintro e w1 ⟨ra,rn,rc,rfl,hr,hb⟩;have B1:=shB KW hb;have K1:Hid (w1.cell? ⟨x,0,none⟩=some (.bool false)∧w1.cell? ⟨y,0,none⟩=some (.bool false)∧w1.cell? ⟨y,1,none⟩=some (.slice ya yn yc)):=⟨cell_bel hb KS.o.1,cell_bel hb KS.o.2.1,cell_bel hb KS.o.2.2⟩
 have R1:Hid (Ru w1 ra rn rc (dig (m+k))):=hr;clear hb hr
 try go_simp
 refine hK.o _ _ K1.o (fun hHeld=>?_);clear hK K;refine wpAnyH_take (i:=18) (v:=?v34) rfl (by kernel_rfl) (by kernel_rfl) (by kernel_rfl) zid (Or.inl ⟨by rfl,?y34⟩) (by assumption) ?_
 case y34=>(intro w hSw;(try dsimp only at hSw);go_simp;try (with_reducible rfl))
 try simp only [Act.put]
 try simp only [List.setIfInBounds_toArray]
 try simp only [List.set_cons_succ]
 try simp only [List.set_cons_zero]
 refine wpAnyH_take (i:=19) (v:=?v35) rfl (by kernel_rfl) (by kernel_rfl) (by kernel_rfl) zid (Or.inl ⟨by rfl,?y35⟩) (by assumption) ?_
 case y35=>(intro w hSw;(try dsimp only at hSw);go_simp;try (with_reducible rfl))
 try simp only [Act.put]
 try simp only [List.setIfInBounds_toArray]
 try simp only [List.set_cons_succ]
 try simp only [List.set_cons_zero]
 refine wpAnyH_ready (rs:=[20]) (by kernel_rfl) (by simp) ?_;refine AllReadyH.cons rfl (fun K hK=>?_) AllReadyH.nil;go_simp;go_wp2_with fail;refine (give_any z _ _ _ _ (HZ.o.below B1.o)).mono ?_;rintro e w2 ⟨rfl,h2,hex⟩;have K2:Hid (w2.cell? ⟨x,0,none⟩=some (.bool false)∧w2.cell? ⟨y,0,none⟩=some (.bool false)∧w2.cell? ⟨y,1,none⟩=some (.slice ya yn yc)):=⟨neg_ex hex h2 K1.o.1 rfl,cell_ex hex K1.o.2.1 hyz,cell_ex hex K1.o.2.2 hyz⟩
 have F2:Hid (Bg w2 z (m+k)∧Ex w w2 z):=⟨⟨_,_,_,h2,R1.o.ex (HZ.o.below B1.o) hex⟩,Ex.of B1.o hex⟩
 clear h2 hex
 try go_simp
 refine hK.o _ _ K2.o (fun hHeld=>?_);clear hK K;refine wpAnyH_ready (rs:=[21]) (by kernel_rfl) (by simp) ?_;refine AllReadyH.cons rfl (fun K hK=>?_) AllReadyH.nil;go_simp;refine hK.o _ _ K2.o (fun hHeld=>?_);clear hK K;refine wpAnyH_done (by kernel_rfl) ?_ _;go_wp2_with fail;go_ret;exact ⟨rfl,F2.o.1,F2.o.2⟩
end words
end Go.Proofs.YtnpblpbohcegoaaGreatDoor
