import Derived.Test.YtnpblpbohcegoaaGreatDoorVVRts7
import Derived.Test.YtnpblpbohcegoaaGreatDoorVVRts18
set_option linter.unusedVariables false
set_option linter.unusedSimpArgs false
set_option maxHeartbeats 4000000
set_option maxRecDepth 100000
namespace Go.Proofs.YtnpblpbohcegoaaGreatDoor
namespace token
open Go.RowKit
theorem in_any (n lo hi:Int) (w:World):Calls Tryz.prog 101 #[zI n,zI lo,zI hi] w fun e w'=>e = .returned (.bool (hasI lo hi n))∧w'=w:=by
 by_cases h:lo≤n∧n≤hi
 ·rw [hasI_yes.2 h];exact in_yes n lo hi w h.1 h.2
 ·rw [show hasI lo hi n=false by rw [← Bool.not_eq_true];exact fun h0=>h (hasI_yes.1 h0)];exact in_no n lo hi w (by omega)
theorem amt_0 (a:Int):hasI (amLo 0) (amHi 0) a=hasI 1 2097151 a:=rfl
theorem amt_2 (a:Int):hasI (amLo 2) (amHi 2) a=hasI 1 15 a:=rfl
theorem amt_z (a:Int):hasI 0 0 a=(a == 0):=by
 unfold hasI;by_cases h:a=0
 ·subst h;rfl
 ·rw [beq_eq_false_iff_ne.2 h,← Bool.not_eq_true,← hasI];exact fun h0=>h (by have:=hasI_yes.1 h0;omega)
theorem fault_any (c i a t:Int) (w:World) :
  Calls Tryz.prog 57 #[.agg #[zI c,zI i,zI a,zI t]] w fun e w'=>e = .returned (zI (flawT c i a t))∧Below w.heap.size w w':=by
 have HB:Hid (Below w.heap.size w (w.alloc (.cells #[zI c,zI i,zI a,zI t] 96))):=(Below.refl _ _).alloc (Nat.le_refl _) _;have HC:Hid (∀ W,Calls Tryz.prog 101 #[zI c,zI 0,zI 3] W fun e w'=>e = .returned (.bool (hasI 0 3 c))∧w'=W):=fun W=>in_any _ _ _ W;have HI:Hid (∀ W,Calls Tryz.prog 101 #[zI i,zI 1,zI 1048575] W fun e w'=>e = .returned (.bool (hasI 1 1048575 i))∧w'=W):=fun W=>in_any _ _ _ W;have HU:Hid (∀ W,Calls Tryz.prog 101 #[zI t,zI 0,zI 65535] W fun e w'=>e = .returned (.bool (hasI 0 65535 t))∧w'=W):=fun W=>in_any _ _ _ W;have H1:Hid (∀ W,Calls Tryz.prog 101 #[zI a,zI 1,zI 2097151] W fun e w'=>e = .returned (.bool (hasI 1 2097151 a))∧w'=W):=fun W=>in_any _ _ _ W;have H2:Hid (∀ W,Calls Tryz.prog 101 #[zI a,zI 1,zI 15] W fun e w'=>e = .returned (.bool (hasI 1 15 a))∧w'=W):=fun W=>in_any _ _ _ W;by_cases h:c<0∨3<c
 ·rw [flawT_class h];have hc:hasI 0 3 c=false:=by rw [← Bool.not_eq_true];exact fun h0=>by have:=hasI_yes.1 h0;omega
  rw [hc] at HC;clear h hc;go_enter Tryz.func57,Tryz.ntmps57;go_wp2_with (go_at_call 101;refine (HC.o _).mono ?_;rintro e w' ⟨rfl,rfl⟩)
  go_ret;exact ⟨rfl,HB.o⟩
 ·have hc:hasI 0 3 c=true:=hasI_yes.2 (by omega);rw [hc] at HC;rw [flawT_in h];have HZ:Hid ((a == 0)=hasI 0 0 a):=(amt_z a).symm;have hne:(a != 0)=!(hasI 0 0 a):=by rw [amt_z];rfl
  generalize hasI 1 1048575 i=bi at *;generalize hasI 0 65535 t=bt at *;rcases (by omega:c=0∨c=1∨c=2∨c=3) with rfl | rfl | rfl | rfl
  ·rw [amt_0];clear H2 HZ hne h hc;generalize hasI 1 2097151 a=ba at *;cases bi <;> cases bt <;> cases ba
   all_goals
    go_enter Tryz.func57,Tryz.ntmps57
    go_wp2_with (first
     | (go_at_call_of 101 (Value.int .i64 3);refine (HC.o _).mono ?_;rintro e w' ⟨rfl,rfl⟩)
     | (go_at_call_of 101 (Value.int .i64 1048575);refine (HI.o _).mono ?_;rintro e w' ⟨rfl,rfl⟩)
     | (go_at_call_of 101 (Value.int .i64 65535);refine (HU.o _).mono ?_;rintro e w' ⟨rfl,rfl⟩)
     | (go_at_call_of 101 (Value.int .i64 2097151);refine (H1.o _).mono ?_;rintro e w' ⟨rfl,rfl⟩))
    go_ret;exact ⟨rfl,HB.o⟩
  ·rw [show hasI (amLo 1) (amHi 1) a=hasI 0 0 a from rfl];clear H1 H2 h hc;generalize hasI 0 0 a=ba at *;cases bi <;> cases bt <;> cases ba
   all_goals
    go_enter Tryz.func57,Tryz.ntmps57
    go_wp2_with (first
     | (go_at_call_of 101 (Value.int .i64 3);refine (HC.o _).mono ?_;rintro e w' ⟨rfl,rfl⟩)
     | (go_at_call_of 101 (Value.int .i64 1048575);refine (HI.o _).mono ?_;rintro e w' ⟨rfl,rfl⟩)
     | (go_at_call_of 101 (Value.int .i64 65535);refine (HU.o _).mono ?_;rintro e w' ⟨rfl,rfl⟩))
    go_ret;exact ⟨rfl,HB.o⟩
  ·rw [amt_2];clear H1 HZ hne h hc;generalize hasI 1 15 a=ba at *;cases bi <;> cases bt <;> cases ba
   all_goals
    go_enter Tryz.func57,Tryz.ntmps57
    go_wp2_with (first
     | (go_at_call_of 101 (Value.int .i64 3);refine (HC.o _).mono ?_;rintro e w' ⟨rfl,rfl⟩)
     | (go_at_call_of 101 (Value.int .i64 1048575);refine (HI.o _).mono ?_;rintro e w' ⟨rfl,rfl⟩)
     | (go_at_call_of 101 (Value.int .i64 65535);refine (HU.o _).mono ?_;rintro e w' ⟨rfl,rfl⟩)
     | (go_at_call_of 101 (Value.int .i64 15);refine (H2.o _).mono ?_;rintro e w' ⟨rfl,rfl⟩))
    go_ret;exact ⟨rfl,HB.o⟩
  ·rw [show hasI (amLo 3) (amHi 3) a=hasI 0 0 a from rfl];clear H1 H2 h hc;generalize hasI 0 0 a=ba at *;cases bi <;> cases bt <;> cases ba
   all_goals
    go_enter Tryz.func57,Tryz.ntmps57
    go_wp2_with (first
     | (go_at_call_of 101 (Value.int .i64 3);refine (HC.o _).mono ?_;rintro e w' ⟨rfl,rfl⟩)
     | (go_at_call_of 101 (Value.int .i64 1048575);refine (HI.o _).mono ?_;rintro e w' ⟨rfl,rfl⟩)
     | (go_at_call_of 101 (Value.int .i64 65535);refine (HU.o _).mono ?_;rintro e w' ⟨rfl,rfl⟩))
    go_ret;exact ⟨rfl,HB.o⟩
end token
namespace words
open Go.RowKit
def nf (f:Nat→Nat):Nat→Nat
 | 0=>0
 | n+1=>nf f n+4294967296 ^ n*f n
theorem nf_congr {f g:Nat→Nat} {n:Nat} (h:∀ i,i<n→f i=g i):nf f n=nf g n:=by
 induction n with
 | zero=>rfl
 | succ n ih=>rw [nf,nf,ih fun i hi=>h i (by omega),h n (by omega)]
theorem nf_cons (f:Nat→Nat) (n:Nat):nf f (n+1)=f 0+4294967296*nf (fun i=>f (i+1)) n:=by
 induction n with
 | zero=>simp [nf]
 | succ n ih=>
  rw [nf,ih,nf,Nat.mul_add,Nat.pow_succ]
  have:4294967296 ^ n*4294967296*f (n+1)=4294967296*(4294967296 ^ n*f (n+1)):=by
   rw [Nat.mul_comm (4294967296 ^ n) 4294967296,Nat.mul_assoc]
  omega
theorem nv_nf (l:List Nat):nv l=nf (fun i=>l.getD i 0) l.length:=by
 induction l with
 | nil=>rfl
 | cons x r ih=>
  rw [List.length_cons,nf_cons,nv,ih]
  congr 1
theorem nv_range (f:Nat→Nat) (n:Nat):nv ((List.range n).map f)=nf f n:=by
 rw [nv_nf];rw [List.length_map,List.length_range];exact nf_congr fun i hi=>by simp [List.getD,hi]
theorem nf_zero {f:Nat→Nat} {n:Nat} (h:∀ i,i<n→f i=0):nf f n=0:=by
 induction n with
 | zero=>rfl
 | succ n ih=>rw [nf,ih fun i hi=>h i (by omega),h n (by omega)];simp
theorem nf_more {f:Nat→Nat} {m n:Nat} (hmn:m≤n) (h:∀ i,m≤i→f i=0):nf f n=nf f m:=by
 induction n with
 | zero=>
  have:m=0:=by omega
  subst this;rfl
 | succ n ih=>
  by_cases e:m=n+1
  ·subst e;rfl
  ·rw [nf,h n (by omega),ih (by omega)];simp
theorem nv_more (l:List Nat) {n:Nat} (h:l.length≤n):nv l=nf (fun i=>l.getD i 0) n:=by
 rw [nv_nf,nf_more h];intro i hi;simp [List.getD,List.getElem?_eq_none hi]
def RowU (w:World) (g n:Nat) (f:Nat→Nat):Prop:=w.heap[g]?=some (.cells ((List.range n).map fun i=>Value.int .u32 ((f i:Nat):Int)).toArray 99 (0,0))
variable {w w':World} {g n:Nat} {f:Nat→Nat}
theorem RowU.cell (h:RowU w g n f) {i:Nat} (hi:i<n):w.cell? ⟨g,i,none⟩=some (.int .u32 ((f i:Nat):Int)):=by unfold RowU at h;simp [World.cell?,h,hi]
theorem RowU.free (h:RowU w g n f) (i:Nat):w.frozen? ⟨g,i,none⟩=false:=by unfold RowU at h;simp [World.frozen?,h]
def updU (f:Nat→Nat) (i v:Nat):Nat→Nat:=fun k=>if k=i then v else f k
theorem RowU.set (h:RowU w g n f) (i v:Nat):RowU (w.setCell ⟨g,i,none⟩ (.int .u32 ((v:Nat):Int))) g n (updU f i v):=by
 unfold RowU at *;simp only [World.setCell,Array.getElem?_modify,h,if_true,Option.map_some]
 congr 2
 simp only [Option.isSome_none,Bool.false_eq_true,if_false];apply Array.ext';simp only [Array.toList_setIfInBounds];apply List.ext_getElem?;intro k;by_cases hk:k<n
 ·by_cases e:k=i
  ·subst e;simp [updU,hk]
  ·rw [List.getElem?_set_ne (by omega)];simp [updU,hk,e]
 ·rw [List.getElem?_eq_none (by simp;omega),List.getElem?_eq_none (by simp;omega)]
theorem RowU.ru (h:RowU w g n f) (hf:∀ i,i<n→f i<4294967296):Ru w (some ⟨g,0,none⟩) n n ((List.range n).map f):=by
 refine ⟨by simp,fun x hx=>?_,(fun h=>by cases h),Nat.le_refl _,.inr ⟨g,0,rfl,fun i hi=>?_⟩,fun b off s e _=>by obtain ⟨rfl,-,-⟩:=(by simpa using e:g=b∧0=off∧none=s);exact ⟨_,_,h⟩⟩
 ·obtain ⟨i,hi,rfl⟩:=List.mem_map.1 hx;exact hf i (by simpa using hi)
 ·rw [Nat.zero_add,h.cell hi];simp [List.getD,hi]
theorem rowU_made {w1:World} {n g base:Nat} (h:w1.ownsRow base 99 1 (.slice (some ⟨g,0,none⟩) n n) n (madeCells #[Value.int .u32 0] n).toList):RowU w1 g n (fun _=>0):=by
 rcases h.2 with ⟨h1,_⟩ | ⟨g',cap,cur,h1,_,h2,_,_,h3,h4⟩
 ·cases h1
 ·simp only [Value.slice.injEq,Option.some.injEq,Addr.mk.injEq] at h1;obtain ⟨⟨rfl,-⟩,-,rfl⟩:=h1;unfold RowU;rw [h2]
  congr 2
  apply Array.ext'
  have e1:cur.toList=(madeCells #[Value.int .u32 0] n).toList:=by
   rw [← h4,List.take_of_length_le (by simp;omega)]
  rw [e1,toList_madeCells_one];apply List.ext_getElem?;intro k;by_cases hk:k<n
  ·simp [hk]
  ·rw [List.getElem?_eq_none (by simp;omega),List.getElem?_eq_none (by simp;omega)]
theorem info_u32:(Tryz.prog.info? 99).map (fun i=>(i.zero,i.size,i.bytes))=some (some (.int .u32 0),1,4):=by kernel_rfl
theorem add_step {S A B P c x y:Nat} (h:S+P*c=A+B):S+P*((c+x+y) % 4294967296)+P*4294967296*((c+x+y) / 4294967296)=(A+P*x)+(B+P*y):=by
 have e:(c+x+y) % 4294967296+4294967296*((c+x+y) / 4294967296)=c+x+y:=by omega
 have e2:P*((c+x+y) % 4294967296)+P*4294967296*((c+x+y) / 4294967296)=P*c+P*x+P*y:=by
  rw [Nat.mul_assoc,← Nat.mul_add,e,Nat.mul_add,Nat.mul_add]
 omega
theorem add_ge (a b:Option Addr) (n k ca cb:Nat) (la lb:List Nat) (w:World) (ha:Ru w a n ca la) (hbb:Ru w b k cb lb) (hkn:k≤n) (hn:n≤100) :
  Calls Tryz.prog 181 #[.slice a n ca,.slice b k cb] w fun e w'=>Gives w (nv la+nv lb) e w':=by
 obtain ⟨i0,hi,hz0,hz1,hz2⟩:=info_parts info_u32;have HA:Hid (Ru w a n ca la):=ha;have HBB:Hid (Ru w b k cb lb):=hbb;have hsw:¬ (n:Int)<(k:Int):=by omega
 clear ha hbb;go_enter Tryz.func181,Tryz.ntmps181
 go_wp2_with (first
  | (at_make;refine wpList_make_full _ rfl _ _ 25 rfl w.heap.size 99 i0 (.int .u32 0) 1 Tryz.underlying25 hi hz0 hz1 _ _ _ _ (n+1) rfl rfl ?c0 ?c1 ?c2 ?c3 ?c4 ?_))
 try (case c0=>first | rfl | (congr 1;omega))
 try (case c1=>first | rfl | (congr 1;omega))
 case c2=>first | omega | (rw [hz2];omega)
 case c3=>unfold maxLen;omega
 try (case c4=>simp)
 intro w1 hown hgr;have HR1:Hid (RowU w1 w.heap.size (n+1) (fun _=>0)):=rowU_made hown;have HB1:Hid (Below w.heap.size w w1):=(Below.refl _ _).grown hgr (Nat.le_refl _) (fun k hk=>by cases hk);clear hown hgr hi hz0 hz1 hz2;go_wp2_with fail;go_loopw [6,7] (fun cv iv wr=>∃ (i c:Nat) (f:Nat→Nat),i≤n∧iv=zI i∧cv = .int .u64 c∧c≤2∧RowU wr w.heap.size (n+1) f∧(∀ j,j<n+1→f j<4294967296)∧Below w.heap.size w wr∧nf f i+4294967296 ^ i*c=nf (fun j=>la.getD j 0) i+nf (fun j=>lb.getD j 0) i) (fun _ iv _=>n - (intOf iv).toNat)
 case atStart=>exact ⟨0,0,fun _=>0,Nat.zero_le _,rfl,rfl,by omega,HR1.o,fun _ _=>(by decide:0<4294967296),HB1.o,rfl⟩
 case round=>
  obtain ⟨i,c,f,hin,rfl,rfl,hc2,hrow,hfb,hb,heq⟩:=hrel;by_cases hlt:i<n
  ·obtain ⟨ba,oa,rfl,hca⟩:=(HA.o.below hb).at hlt;have r0:=hrow.cell (i:=i) (by omega);have f0:=hrow.free i;obtain ⟨fi,hfi⟩:∃ fi:Int,((f i:Nat):Int)=fi:=⟨_,rfl⟩
   rw [hfi] at r0;clear hfi;by_cases hik:i<k
   ·have hx:=HA.o.word i;obtain ⟨bb,ob,rfl,hcb⟩:=(HBB.o.below hb).at hik;have hy:=HBB.o.word i;have hst:=add_step (S:=nf f i) (A:=nf (fun j=>la.getD j 0) i) (B:=nf (fun j=>lb.getD j 0) i) (P:=4294967296 ^ i) (c:=c) (x:=la.getD i 0) (y:=lb.getD i 0) heq;obtain ⟨x,hxx⟩:∃ x,la.getD i 0=x:=⟨_,rfl⟩
    have HX:Hid (la.getD i 0=x):=hxx;rw [hxx] at hx hst hca;clear hxx;obtain ⟨y,hyy⟩:∃ y,lb.getD i 0=y:=⟨_,rfl⟩
    have HY:Hid (lb.getD i 0=y):=hyy;rw [hyy] at hy hst hcb;clear hyy;have e0:(c:Int)+(x:Int)+(y:Int)=((c+x+y:Nat):Int):=by omega
    have HV:Hid (c+x+y<8589934600):=(by omega:c+x+y<8589934600)
    generalize hq:c+x+y=q at *;have hqb:(q:Int)<8589934600:=by have:=HV.o;omega
    have e1:((q:Nat):Int) % 4294967296=((q % 4294967296:Nat):Int):=by omega
    have e2:((q:Nat):Int) / 4294967296=((q / 4294967296:Nat):Int):=by omega
    have HN:Hid (RowU (wr.setCell ⟨w.heap.size,i,none⟩ (.int .u32 ((q % 4294967296:Nat):Int))) w.heap.size (n+1) (updU f i (q % 4294967296))):=hrow.set _ _;have HBN:Hid (Below w.heap.size w (wr.setCell ⟨w.heap.size,i,none⟩ (.int .u32 ((q % 4294967296:Nat):Int)))):=below_set hb _ _ _ (Nat.le_refl _)
    have HF:Hid (∀ j,j<n+1→updU f i (q % 4294967296) j<4294967296):=fun j hj=>by
     unfold updU;split
     ·omega
     ·exact hfb j hj
    have HC:Hid (q / 4294967296≤2):=by
     have:=HV.o;exact (by omega:q / 4294967296≤2)
    have HE:Hid (nf (updU f i (q % 4294967296)) (i+1)+4294967296 ^ (i+1)*(q / 4294967296)=nf (fun j=>la.getD j 0) (i+1)+nf (fun j=>lb.getD j 0) (i+1)):=by
     have e3:nf (updU f i (q % 4294967296)) i=nf f i:=nf_congr fun j hj=>by unfold updU;rw [if_neg (by omega)]
     have e4:updU f i (q % 4294967296) i=q % 4294967296:=by unfold updU;rw [if_pos rfl]
     have goal:nf (updU f i (q % 4294967296)) (i+1)+4294967296 ^ (i+1)*(q / 4294967296)=nf (fun j=>la.getD j 0) (i+1)+nf (fun j=>lb.getD j 0) (i+1):=by
      rw [nf,nf,nf,e3,e4,Nat.pow_succ];have hX:la.getD i 0=x:=HX.o;have hY:lb.getD i 0=y:=HY.o;rw [hX,hY];exact hst
     exact goal
    clear hst heq hfb HX HY;generalize q % 4294967296=u at *;generalize hqq:q / 4294967296=c2 at *;clear hqq;go_wp2_with fail;go_roundw
    case rel=>exact ⟨i+1,c2,_,by omega,by go_num,rfl,HC.o,HN.o,HF.o,HBN.o,HE.o⟩
    case measure=>simp [intOf];omega
   ·have hx:=HA.o.word i;have hy0:lb.getD i 0=0:=by simp [List.getD,List.getElem?_eq_none (show lb.length≤i by rw [HBB.o.len];omega)]
    have hst:=add_step (S:=nf f i) (A:=nf (fun j=>la.getD j 0) i) (B:=nf (fun j=>lb.getD j 0) i) (P:=4294967296 ^ i) (c:=c) (x:=la.getD i 0) (y:=0) heq;rw [Nat.add_zero] at hst;obtain ⟨x,hxx⟩:∃ x,la.getD i 0=x:=⟨_,rfl⟩
    have HX:Hid (la.getD i 0=x):=hxx;have HY:Hid (lb.getD i 0=0):=hy0;rw [hxx] at hx hst hca;clear hxx hy0;have e0:(c:Int)+(x:Int)=((c+x:Nat):Int):=by omega
    have HV:Hid (c+x<8589934600):=(by omega:c+x<8589934600)
    generalize hq:c+x=q at *;have hqb:(q:Int)<8589934600:=by have:=HV.o;omega
    have e1:((q:Nat):Int) % 4294967296=((q % 4294967296:Nat):Int):=by omega
    have e2:((q:Nat):Int) / 4294967296=((q / 4294967296:Nat):Int):=by omega
    have HN:Hid (RowU (wr.setCell ⟨w.heap.size,i,none⟩ (.int .u32 ((q % 4294967296:Nat):Int))) w.heap.size (n+1) (updU f i (q % 4294967296))):=hrow.set _ _;have HBN:Hid (Below w.heap.size w (wr.setCell ⟨w.heap.size,i,none⟩ (.int .u32 ((q % 4294967296:Nat):Int)))):=below_set hb _ _ _ (Nat.le_refl _)
    have HF:Hid (∀ j,j<n+1→updU f i (q % 4294967296) j<4294967296):=fun j hj=>by
     unfold updU;split
     ·omega
     ·exact hfb j hj
    have HC:Hid (q / 4294967296≤2):=by
     have:=HV.o;exact (by omega:q / 4294967296≤2)
    have HE:Hid (nf (updU f i (q % 4294967296)) (i+1)+4294967296 ^ (i+1)*(q / 4294967296)=nf (fun j=>la.getD j 0) (i+1)+nf (fun j=>lb.getD j 0) (i+1)):=by
     have e3:nf (updU f i (q % 4294967296)) i=nf f i:=nf_congr fun j hj=>by unfold updU;rw [if_neg (by omega)]
     have e4:updU f i (q % 4294967296) i=q % 4294967296:=by unfold updU;rw [if_pos rfl]
     have goal:nf (updU f i (q % 4294967296)) (i+1)+4294967296 ^ (i+1)*(q / 4294967296)=nf (fun j=>la.getD j 0) (i+1)+nf (fun j=>lb.getD j 0) (i+1):=by
      rw [nf,nf,nf,e3,e4,Nat.pow_succ];have hX:la.getD i 0=x:=HX.o;have hY:lb.getD i 0=0:=HY.o;rw [hX,hY];exact hst
     exact goal
    clear hst heq hfb HX HY;generalize q % 4294967296=u at *;generalize hqq:q / 4294967296=c2 at *;clear hqq;go_wp2_with fail;go_roundw
    case rel=>exact ⟨i+1,c2,_,by omega,by go_num,rfl,HC.o,HN.o,HF.o,HBN.o,HE.o⟩
    case measure=>simp [intOf];omega
  ·obtain rfl:i=n:=by omega
   have hvb:c<4294967296:=by omega
   have r0:=hrow.cell (i:=i) (by omega);have f0:=hrow.free i;obtain ⟨fi,hfi⟩:∃ fi:Int,((f i:Nat):Int)=fi:=⟨_,rfl⟩
   rw [hfi] at r0;clear hfi;have e1:((c:Nat):Int) % 4294967296=((c:Nat):Int):=by omega
   have HN:Hid (RowU (wr.setCell ⟨w.heap.size,i,none⟩ (.int .u32 ((c:Nat):Int))) w.heap.size (i+1) (updU f i c)):=hrow.set _ _;have HBN:Hid (Below w.heap.size w (wr.setCell ⟨w.heap.size,i,none⟩ (.int .u32 ((c:Nat):Int)))):=below_set hb _ _ _ (Nat.le_refl _)
   have HF:Hid (∀ j,j<i+1→updU f i c j<4294967296):=fun j hj=>by
    unfold updU;split
    ·omega
    ·exact hfb j hj
   have HE:Hid (nv ((List.range (i+1)).map (updU f i c))=nv la+nv lb):=by
    have e3:nf (updU f i c) i=nf f i:=nf_congr fun j hj=>by unfold updU;rw [if_neg (by omega)]
    have e4:updU f i c i=c:=by unfold updU;rw [if_pos rfl]
    have goal:nv ((List.range (i+1)).map (updU f i c))=nv la+nv lb:=by
     rw [nv_range,nf,e3,e4,heq,← nv_more la (by rw [HA.o.len];exact Nat.le_refl _),← nv_more lb (by rw [HBB.o.len];omega)]
    exact goal
   clear hrow hfb hb heq hlt;go_wp2_with fail;refine (trim_any _ _ _ _ _ (HN.o.ru HF.o) (by omega)).mono ?_;rintro e w3 ⟨a3,n3,c3,rfl,hr3,hb3⟩;rw [HE.o] at hr3;have HG:Hid (Gives w (nv la+nv lb) (.returned (.slice a3 n3 c3)) w3):=Gives.mk hr3 (HBN.o.trans (hb3.mono HBN.o.size));clear hr3 hb3;go_wp2_with fail;go_ret;exact HG.o
theorem add_lt (a b:Option Addr) (n k ca cb:Nat) (la lb:List Nat) (w:World) (ha:Ru w a n ca la) (hbb:Ru w b k cb lb) (hkn:k<n) (hn:n≤100) :
  Calls Tryz.prog 181 #[.slice b k cb,.slice a n ca] w fun e w'=>Gives w (nv la+nv lb) e w':=by
 obtain ⟨i0,hi,hz0,hz1,hz2⟩:=info_parts info_u32;have HA:Hid (Ru w a n ca la):=ha;have HBB:Hid (Ru w b k cb lb):=hbb;have hsw:(k:Int)<(n:Int):=by omega
 clear ha hbb;go_enter Tryz.func181,Tryz.ntmps181
 go_wp2_with (first
  | (at_make;refine wpList_make_full _ rfl _ _ 25 rfl w.heap.size 99 i0 (.int .u32 0) 1 Tryz.underlying25 hi hz0 hz1 _ _ _ _ (n+1) rfl rfl ?c0 ?c1 ?c2 ?c3 ?c4 ?_))
 try (case c0=>first | rfl | (congr 1;omega))
 try (case c1=>first | rfl | (congr 1;omega))
 case c2=>first | omega | (rw [hz2];omega)
 case c3=>unfold maxLen;omega
 try (case c4=>simp)
 intro w1 hown hgr;have HR1:Hid (RowU w1 w.heap.size (n+1) (fun _=>0)):=rowU_made hown;have HB1:Hid (Below w.heap.size w w1):=(Below.refl _ _).grown hgr (Nat.le_refl _) (fun k hk=>by cases hk);clear hown hgr hi hz0 hz1 hz2;go_wp2_with fail;go_loopw [6,7] (fun cv iv wr=>∃ (i c:Nat) (f:Nat→Nat),i≤n∧iv=zI i∧cv = .int .u64 c∧c≤2∧RowU wr w.heap.size (n+1) f∧(∀ j,j<n+1→f j<4294967296)∧Below w.heap.size w wr∧nf f i+4294967296 ^ i*c=nf (fun j=>la.getD j 0) i+nf (fun j=>lb.getD j 0) i) (fun _ iv _=>n - (intOf iv).toNat)
 case atStart=>exact ⟨0,0,fun _=>0,Nat.zero_le _,rfl,rfl,by omega,HR1.o,fun _ _=>(by decide:0<4294967296),HB1.o,rfl⟩
 case round=>
  obtain ⟨i,c,f,hin,rfl,rfl,hc2,hrow,hfb,hb,heq⟩:=hrel;by_cases hlt:i<n
  ·obtain ⟨ba,oa,rfl,hca⟩:=(HA.o.below hb).at hlt;have r0:=hrow.cell (i:=i) (by omega);have f0:=hrow.free i;obtain ⟨fi,hfi⟩:∃ fi:Int,((f i:Nat):Int)=fi:=⟨_,rfl⟩
   rw [hfi] at r0;clear hfi;by_cases hik:i<k
   ·have hx:=HA.o.word i;obtain ⟨bb,ob,rfl,hcb⟩:=(HBB.o.below hb).at hik;have hy:=HBB.o.word i;have hst:=add_step (S:=nf f i) (A:=nf (fun j=>la.getD j 0) i) (B:=nf (fun j=>lb.getD j 0) i) (P:=4294967296 ^ i) (c:=c) (x:=la.getD i 0) (y:=lb.getD i 0) heq;obtain ⟨x,hxx⟩:∃ x,la.getD i 0=x:=⟨_,rfl⟩
    have HX:Hid (la.getD i 0=x):=hxx;rw [hxx] at hx hst hca;clear hxx;obtain ⟨y,hyy⟩:∃ y,lb.getD i 0=y:=⟨_,rfl⟩
    have HY:Hid (lb.getD i 0=y):=hyy;rw [hyy] at hy hst hcb;clear hyy;have e0:(c:Int)+(x:Int)+(y:Int)=((c+x+y:Nat):Int):=by omega
    have HV:Hid (c+x+y<8589934600):=(by omega:c+x+y<8589934600)
    generalize hq:c+x+y=q at *;have hqb:(q:Int)<8589934600:=by have:=HV.o;omega
    have e1:((q:Nat):Int) % 4294967296=((q % 4294967296:Nat):Int):=by omega
    have e2:((q:Nat):Int) / 4294967296=((q / 4294967296:Nat):Int):=by omega
    have HN:Hid (RowU (wr.setCell ⟨w.heap.size,i,none⟩ (.int .u32 ((q % 4294967296:Nat):Int))) w.heap.size (n+1) (updU f i (q % 4294967296))):=hrow.set _ _;have HBN:Hid (Below w.heap.size w (wr.setCell ⟨w.heap.size,i,none⟩ (.int .u32 ((q % 4294967296:Nat):Int)))):=below_set hb _ _ _ (Nat.le_refl _)
    have HF:Hid (∀ j,j<n+1→updU f i (q % 4294967296) j<4294967296):=fun j hj=>by
     unfold updU;split
     ·omega
     ·exact hfb j hj
    have HC:Hid (q / 4294967296≤2):=by
     have:=HV.o;exact (by omega:q / 4294967296≤2)
    have HE:Hid (nf (updU f i (q % 4294967296)) (i+1)+4294967296 ^ (i+1)*(q / 4294967296)=nf (fun j=>la.getD j 0) (i+1)+nf (fun j=>lb.getD j 0) (i+1)):=by
     have e3:nf (updU f i (q % 4294967296)) i=nf f i:=nf_congr fun j hj=>by unfold updU;rw [if_neg (by omega)]
     have e4:updU f i (q % 4294967296) i=q % 4294967296:=by unfold updU;rw [if_pos rfl]
     have goal:nf (updU f i (q % 4294967296)) (i+1)+4294967296 ^ (i+1)*(q / 4294967296)=nf (fun j=>la.getD j 0) (i+1)+nf (fun j=>lb.getD j 0) (i+1):=by
      rw [nf,nf,nf,e3,e4,Nat.pow_succ];have hX:la.getD i 0=x:=HX.o;have hY:lb.getD i 0=y:=HY.o;rw [hX,hY];exact hst
     exact goal
    clear hst heq hfb HX HY;generalize q % 4294967296=u at *;generalize hqq:q / 4294967296=c2 at *;clear hqq;go_wp2_with fail;go_roundw
    case rel=>exact ⟨i+1,c2,_,by omega,by go_num,rfl,HC.o,HN.o,HF.o,HBN.o,HE.o⟩
    case measure=>simp [intOf];omega
   ·have hx:=HA.o.word i;have hy0:lb.getD i 0=0:=by simp [List.getD,List.getElem?_eq_none (show lb.length≤i by rw [HBB.o.len];omega)]
    have hst:=add_step (S:=nf f i) (A:=nf (fun j=>la.getD j 0) i) (B:=nf (fun j=>lb.getD j 0) i) (P:=4294967296 ^ i) (c:=c) (x:=la.getD i 0) (y:=0) heq;rw [Nat.add_zero] at hst;obtain ⟨x,hxx⟩:∃ x,la.getD i 0=x:=⟨_,rfl⟩
    have HX:Hid (la.getD i 0=x):=hxx;have HY:Hid (lb.getD i 0=0):=hy0;rw [hxx] at hx hst hca;clear hxx hy0;have e0:(c:Int)+(x:Int)=((c+x:Nat):Int):=by omega
    have HV:Hid (c+x<8589934600):=(by omega:c+x<8589934600)
    generalize hq:c+x=q at *;have hqb:(q:Int)<8589934600:=by have:=HV.o;omega
    have e1:((q:Nat):Int) % 4294967296=((q % 4294967296:Nat):Int):=by omega
    have e2:((q:Nat):Int) / 4294967296=((q / 4294967296:Nat):Int):=by omega
    have HN:Hid (RowU (wr.setCell ⟨w.heap.size,i,none⟩ (.int .u32 ((q % 4294967296:Nat):Int))) w.heap.size (n+1) (updU f i (q % 4294967296))):=hrow.set _ _;have HBN:Hid (Below w.heap.size w (wr.setCell ⟨w.heap.size,i,none⟩ (.int .u32 ((q % 4294967296:Nat):Int)))):=below_set hb _ _ _ (Nat.le_refl _)
    have HF:Hid (∀ j,j<n+1→updU f i (q % 4294967296) j<4294967296):=fun j hj=>by
     unfold updU;split
     ·omega
     ·exact hfb j hj
    have HC:Hid (q / 4294967296≤2):=by
     have:=HV.o;exact (by omega:q / 4294967296≤2)
    have HE:Hid (nf (updU f i (q % 4294967296)) (i+1)+4294967296 ^ (i+1)*(q / 4294967296)=nf (fun j=>la.getD j 0) (i+1)+nf (fun j=>lb.getD j 0) (i+1)):=by
     have e3:nf (updU f i (q % 4294967296)) i=nf f i:=nf_congr fun j hj=>by unfold updU;rw [if_neg (by omega)]
     have e4:updU f i (q % 4294967296) i=q % 4294967296:=by unfold updU;rw [if_pos rfl]
     have goal:nf (updU f i (q % 4294967296)) (i+1)+4294967296 ^ (i+1)*(q / 4294967296)=nf (fun j=>la.getD j 0) (i+1)+nf (fun j=>lb.getD j 0) (i+1):=by
      rw [nf,nf,nf,e3,e4,Nat.pow_succ];have hX:la.getD i 0=x:=HX.o;have hY:lb.getD i 0=0:=HY.o;rw [hX,hY];exact hst
     exact goal
    clear hst heq hfb HX HY;generalize q % 4294967296=u at *;generalize hqq:q / 4294967296=c2 at *;clear hqq;go_wp2_with fail;go_roundw
    case rel=>exact ⟨i+1,c2,_,by omega,by go_num,rfl,HC.o,HN.o,HF.o,HBN.o,HE.o⟩
    case measure=>simp [intOf];omega
  ·obtain rfl:i=n:=by omega
   have hvb:c<4294967296:=by omega
   have r0:=hrow.cell (i:=i) (by omega);have f0:=hrow.free i;obtain ⟨fi,hfi⟩:∃ fi:Int,((f i:Nat):Int)=fi:=⟨_,rfl⟩
   rw [hfi] at r0;clear hfi;have e1:((c:Nat):Int) % 4294967296=((c:Nat):Int):=by omega
   have HN:Hid (RowU (wr.setCell ⟨w.heap.size,i,none⟩ (.int .u32 ((c:Nat):Int))) w.heap.size (i+1) (updU f i c)):=hrow.set _ _;have HBN:Hid (Below w.heap.size w (wr.setCell ⟨w.heap.size,i,none⟩ (.int .u32 ((c:Nat):Int)))):=below_set hb _ _ _ (Nat.le_refl _)
   have HF:Hid (∀ j,j<i+1→updU f i c j<4294967296):=fun j hj=>by
    unfold updU;split
    ·omega
    ·exact hfb j hj
   have HE:Hid (nv ((List.range (i+1)).map (updU f i c))=nv la+nv lb):=by
    have e3:nf (updU f i c) i=nf f i:=nf_congr fun j hj=>by unfold updU;rw [if_neg (by omega)]
    have e4:updU f i c i=c:=by unfold updU;rw [if_pos rfl]
    have goal:nv ((List.range (i+1)).map (updU f i c))=nv la+nv lb:=by
     rw [nv_range,nf,e3,e4,heq,← nv_more la (by rw [HA.o.len];exact Nat.le_refl _),← nv_more lb (by rw [HBB.o.len];omega)]
    exact goal
   clear hrow hfb hb heq hlt;go_wp2_with fail;refine (trim_any _ _ _ _ _ (HN.o.ru HF.o) (by omega)).mono ?_;rintro e w3 ⟨a3,n3,c3,rfl,hr3,hb3⟩;rw [HE.o] at hr3;have HG:Hid (Gives w (nv la+nv lb) (.returned (.slice a3 n3 c3)) w3):=Gives.mk hr3 (HBN.o.trans (hb3.mono HBN.o.size));clear hr3 hb3;go_wp2_with fail;go_ret;exact HG.o
theorem add_any (a b:Option Addr) (n k ca cb:Nat) (la lb:List Nat) (w:World) (ha:Ru w a n ca la) (hb:Ru w b k cb lb) (hn:n≤100) (hk:k≤100) :
  Calls Tryz.prog 181 #[.slice a n ca,.slice b k cb] w fun e w'=>Gives w (nv la+nv lb) e w':=by
 by_cases h:k≤n
 ·exact add_ge a b n k ca cb la lb w ha hb h hn
 ·rw [Nat.add_comm];exact add_lt b a k n cb ca lb la w hb ha (by omega) hk
end words
end Go.Proofs.YtnpblpbohcegoaaGreatDoor
