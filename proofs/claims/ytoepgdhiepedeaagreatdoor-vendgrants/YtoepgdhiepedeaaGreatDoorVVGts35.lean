import Derived.Test.YtoepgdhiepedeaaGreatDoorVVGts25
import Derived.Test.YtoepgdhiepedeaaGreatDoorVVGts28
import Derived.Test.YtoepgdhiepedeaaGreatDoorVVGts29
import Derived.Test.YtoepgdhiepedeaaGreatDoorVVGts34
set_option linter.unusedVariables false
set_option linter.unusedSimpArgs false
set_option maxHeartbeats 4000000
set_option maxRecDepth 100000
namespace Go.Proofs.YtoepgdhiepedeaaGreatDoor
namespace book
open Go.RowKit
open acc (Ac Tm Bi APost BPost OweIs SellIs GrantIs RekeyIs)
theorem rhap(a:Ac)(sol:List So)(dp:Option Addr)(dn dc:Nat)(sp:Option Addr)(sn sc:Nat)(t:Tm)(pt:Option Addr)(lt ct:Nat)(v:Ev)(base:Nat)(w:World)(hx:Has w base (cuA a dp dn dc sp sn sc) ⟨a,sol⟩)(ht:tar.RowD w pt lt t.ts)(htl:lt≤maxLen)(hbase:base≤w.heap.size)(hkd:v.kd=2∨v.kd=3∨v.kd=4∨v.kd=5)(hsol:sol.length≤2000000)(hrv:0≤a.rv∧a.rv≤15):
  Calls Tryz.prog 85 #[.agg #[.slice pt lt ct,zI t.ff,zI t.fb,zI t.db,zI t.al],.agg #[zI a.me,zI a.rv,zI a.nx,zI a.mo,zI a.bo,zI a.fr,.slice dp dn dc,.slice sp sn sc],.agg #[zI v.kd,zI v.me,zI v.mo,zI v.id,zI v.te,zI v.de,zI v.fe,zI v.pr,zI v.ch,zI v.un,zI v.tg,zI v.ow,zI v.bp]] w λe w'=>HapPost w base t (cuA a dp dn dc sp sn sc) ⟨a,sol⟩ v e w':=by
 rcases hkd with h|h|h|h
 ·exact rhap2 a sol dp dn dc sp sn sc t pt lt ct v base w hx ht htl hbase h hsol
 ·exact rhap3 a sol dp dn dc sp sn sc t pt lt ct v base w hx ht htl hbase h hsol
 ·exact rhap4 a sol dp dn dc sp sn sc t pt lt ct v base w hx ht htl hbase h hsol hrv
 ·exact rhap5 a sol dp dn dc sp sn sc t pt lt ct v base w hx ht htl hbase h
end book
section
open Go.RowKit
theorem run_neOp{P:Program}{o:Oper}{a:Act}{w:World}(ty rt:TypeId)(x y:Operand)(ho:o.op=.binOp .neq ty x y rt)(ca cb:Array Value)(hx:a.eval x=.agg ca)(hy:a.eval y=.agg cb)(hg:P.eqGuardType P.depth ty=false)(b:Bool)
  (hr:(Op.equalIn 10000 ty (.agg ca) (.agg cb)).run P w=.ok b w):(execOp a.eval o).run P w=.ok (.value (.bool (!b))) w:=by
 have c:(Op.equal ty (.agg ca) (.agg cb)).run P w=.ok b w:=hr;unfold execOp;simp only[ho,hx,hy];have d:∀w':World,(program:Sem Program).run P w'=.ok P w':=λ_=>rfl;simp[eqGuard,hg,binOp,c,d,Sem.run_bind]
theorem wp_neE{P:Program}{ops:Array Oper}{rest:List Oper}{o:Oper}{a:Act}{w:World}{Q:Exit→Act→World→Prop}(hw:Region.wanted o (yielded ops a.tmps)=true)(ty rt:TypeId)(x y:Operand)(ho:o.op=.binOp .neq ty x y rt)(ca cb:Array Value)(hx:a.eval x=.agg ca)(hy:a.eval y=.agg cb)(hg:P.eqGuardType P.depth ty=false)(b:Bool)
  (hr:(Op.equalIn 10000 ty (.agg ca) (.agg cb)).run P w=.ok b w) (d:Nat) (hd:o.dst=some d) (h:wpList P ops Q rest (a.put (some d) (.bool (!b))) w):wpList P ops Q (o::rest) a w:=
 wpList_step λK c=>by
  rw[if_pos hw];exact wp_runOp d hd (run_neOp ty rt x y ho ca cb hx hy hg b hr) (c _ _ h)
end
namespace book
open Go.RowKit
def MustPost(w:World)(v:Ev)(e:Ending)(w':World):Prop:=((EMay v∧e=.returned (.tuple #[]))∨(¬ EMay v∧e=.panicked (thrown 5)))∧zB w w'
theorem eqEv_any(a b:Ev)(w:World):∃B,(Op.equalIn 10000 44 (.agg a.cs) (.agg b.cs)).run Tryz.prog w=.ok B w∧(B=true↔a=b):=by
 obtain⟨j,k,l,m,n,o,p,q,r,s,c,d,e⟩:=a;obtain⟨t,u,x,y,z,A,C,D,E,F,f,g,i⟩:=b;refine⟨_,eqEv 9997 j k l m n o p q r s c d e t u x y z A C D E F f g i w,?_⟩;rw[decide_eq_true_iff];constructor
 ·rintro⟨rfl,rfl,rfl,rfl,rfl,rfl,rfl,rfl,rfl,rfl,rfl,rfl,rfl⟩;rfl
 ·intro h;cases h;exact⟨rfl,rfl,rfl,rfl,rfl,rfl,rfl,rfl,rfl,rfl,rfl,rfl,rfl⟩
theorem bmust(v:Ev)(w:World):Calls Tryz.prog 119 #[.agg #[zI v.kd,zI v.me,zI v.mo,zI v.id,zI v.te,zI v.de,zI v.fe,zI v.pr,zI v.ch,zI v.un,zI v.tg,zI v.ow,zI v.bp]] w λe w'=>MustPost w v e w':=by
 have d:=zh (may_iff v);obtain⟨r,J,D,G,-⟩:=sh1 w #[zI v.kd,zI v.me,zI v.mo,zI v.id,zI v.te,zI v.de,zI v.fe,zI v.pr,zI v.ch,zI v.un,zI v.tg,zI v.ow,zI v.bp] 44;have f:Hid (∀W,zC 164 #[zI 5] W λe w'=>e=.panicked (thrown 5)∧w'=W):=λW=>insist_no 5 (by decide) W;have H:Hid (∀W,zC 162 #[.agg #[zI v.kd,zI v.me,zI v.mo,zI v.id,zI v.te,zI v.de,zI v.fe,zI v.pr,zI v.ch,zI v.un,zI v.tg,zI v.ow,zI v.bp]] W λe w'=>YN W (KindR v) e w'):=λW=>bkind v.kd v.me v.mo v.id v.te v.de v.fe v.pr v.ch v.un v.tg v.ow v.bp W;have I:Hid (∀W,zC 163 #[.agg #[zI v.kd,zI v.me,zI v.mo,zI v.id,zI v.te,zI v.de,zI v.fe,zI v.pr,zI v.ch,zI v.un,zI v.tg,zI v.ow,zI v.bp]] W λe w'=>e=.returned (leftE v).v∧zB W w'):=λW=>bleft v W;go_enter Tryz.func119,Tryz.ntmps119;go_upto_region 1 with fail
 rw[J.o];obtain⟨c0,c1,c2,h,i,j,k,l,m,n,a,b,c⟩:=scl13 D;have F:Hid (zC 161 #[zI 0,zI 49,.slice (some ⟨r.heap.size,0,none⟩) 1 1] (r.alloc (.cells #[zI v.me] 3)) λe w'=>e=.returned (.bool (decide (0≤v.me∧v.me≤49)))∧w'=(r.alloc (.cells #[zI v.me] 3))):=bki.within_one 0 49 v.me r _ rfl;have u:=zyf G (.cells #[zI v.me] 3);have g:=zya D (.cells #[zI v.me] 3);by_cases s:0≤v.me∧v.me≤49
 case neg=>
  rw[decide_eq_false s] at F;have C:Hid (¬ EMay v):=λq=>s (d.o.1 q).1;clear s;go_wp2_with fail;refine F.o.mono ?_;rintro e W ⟨rfl,L⟩;subst L;clear c0 c1 c2 h i j k l m n a b c;generalize (r.alloc (.cells #[zI v.me] 3))=Q at *;obtain⟨c0,c1,c2,h,i,j,k,l,m,n,a,b,c⟩:=scl13 g;go_wp2_with fail;refine(f.o _).mono ?_;rintro e M ⟨rfl,rfl⟩;exact⟨rfl,.inr ⟨C.o,rfl⟩,u.o⟩
 rw[decide_eq_true s] at F;have N:=zh s;clear s;go_wp2_with fail;refine F.o.mono ?_;rintro e W ⟨rfl,L⟩;subst L;clear c0 c1 c2 h i j k l m n a b c;generalize (r.alloc (.cells #[zI v.me] 3))=Q at *;obtain⟨c0,c1,c2,h,i,j,k,l,m,n,a,b,c⟩:=scl13 g;go_wp2_with fail;refine(H.o _).mono ?_;rintro e R ⟨B,rfl,p,t⟩;have x:=shB u t;have K:=shN g t;clear t;clear c0 c1 c2 h i j k l m n a b c;obtain⟨c0,c1,c2,h,i,j,k,l,m,n,a,b,c⟩:=scl13 K;cases B
 case false=>
  have C:Hid (¬ EMay v):=λq=>absurd (p.2 (d.o.1 q).2.1) (by decide);clear p;go_wp2_with fail;refine(f.o _).mono ?_;rintro e M ⟨rfl,rfl⟩;exact⟨rfl,.inr ⟨C.o,rfl⟩,x.o⟩
 have O:Hid (KindR v):=p.1 rfl;clear p;go_wp2_with fail;refine(I.o _).mono ?_;rintro e W3 ⟨rfl,t⟩;have y:=shB x t;clear t;clear c0 c1 c2 h i j k l m n a b c;obtain⟨B,p,E⟩:=eqEv_any (leftE v) ev0 W3;have A:=zh p;have z:=zh E;clear p E;unfold Ev.v;cases B
 case false=>
  have C:Hid (¬ EMay v):=λq=>absurd (z.o.2 (d.o.1 q).2.2) (by decide);go_wp2_with (first|(refine wp_neE (by rfl) 44 _ _ _ rfl (leftE v).cs ev0.cs rfl rfl (by kernel_rfl) false A.o _ rfl ?_)|fail)
  go_wp2_with fail;refine(f.o _).mono ?_;rintro e M ⟨rfl,rfl⟩;exact⟨rfl,.inr ⟨C.o,rfl⟩,y.o⟩
 case true=>
  have P:Hid (EMay v):=d.o.2 ⟨N.o,O.o,z.o.1 rfl⟩;go_wp2_with (first|(refine wp_neE (by rfl) 44 _ _ _ rfl (leftE v).cs ev0.cs rfl rfl (by kernel_rfl) true A.o _ rfl ?_)|fail)
  go_end0;exact⟨.inl ⟨P.o,rfl⟩,y.o⟩
end book
namespace vnd
open disk (RepIs AppIs)
open book (Ev ev0 EMay evL evOf EncIs DecIs Cm cm0 So so0 BookIs Sees ECame FirstAt NoneAt)
open acc (Ac Tm Bi TCame ACame)
open cell (Wr RowU)
open Go.RowKit
def NoTwo(w:World)(g:Nat):Prop:=∀o x y,w.cell? ⟨g,o,none⟩=some (zI x)→w.cell? ⟨g,o+1,none⟩=some (zI y)→False
variable{v':Array Value}{p:Option Addr}{w W:World}{T':TypeId}{g:Nat}{n:Nat}
theorem shop_odd{w:World}{T:TypeId}{a1 b1:Option Addr}{a2 a3 b2 b3:Nat}{z:Value}(hB:Blk w g #[.slice a1 a2 a3,.slice b1 b2 b3,z] T):NoTwo w g:=by
 intro o x y a b
 match o,a,b with
 |0,a,_=>rw[hB.cell 0] at a;cases a
 |1,a,_=>rw[hB.cell 1] at a;cases a
 |o+2,_,b=>rw[hB.cell (o+2+1)] at b;simp at b
theorem rowC_far{xs:List book.Cu}(h:book.RowC w p n xs)(hg:NoTwo w g)(hU:Upd w W g v' T'):book.RowC W p n xs:=by
 refine⟨h.1,?_⟩;rcases h.2 with c|⟨b,a,rfl,q,d⟩
 ·exact .inl c
 ·rcases Nat.eq_zero_or_pos n with c|c
  ·exact .inl c
  ·have f:b≠g:=λe=>by
    subst e;have k:=d 0 0 c (by decide);have l:=d 0 1 c (by decide);exact hg (a+0*8+0) (xs.getD 0 book.cu0).me (xs.getD 0 book.cu0).rv (by rw[k];rfl) (by rw[show a+0*8+0+1=a+0*8+1 by omega,l];rfl)
   exact .inr ⟨b,a,rfl,by rw[hU.size];exact q,λi j m o=>by rw[hU.cell _ f rfl];exact d i j m o⟩
theorem rowS_far{l:List So}(h:book.RowS w p n l)(hg:NoTwo w g)(hU:Upd w W g v' T'):book.RowS W p n l:=by
 refine⟨h.1,?_⟩;rcases h.2 with c|⟨b,a,rfl,r,d⟩
 ·exact .inl c
 ·rcases Nat.eq_zero_or_pos n with c|c
  ·exact .inl c
  ·have f:b≠g:=λe=>by
    subst e;have k:=d 0 0 c (by decide);have m:=d 0 1 c (by decide);exact hg (a+0*5+0) (l.getD 0 so0).id (l.getD 0 so0).cl (by rw[k];rfl) (by rw[show a+0*5+0+1=a+0*5+1 by omega,m];rfl)
   exact .inr ⟨b,a,rfl,by rw[hU.size];exact r,λi j o q=>by rw[hU.cell _ f rfl];exact d i j o q⟩
theorem came_far{n cap:Nat}{l:List tar.Du}(h:tar.Came w p n cap l)(hg:NoTwo w g)(hU:Upd w W g v' T'):tar.Came W p n cap l:=
 acc.came_upd h hU λa x d e=>by
  obtain⟨b,j,i,k,c⟩:=h.row.at a;rw[i] at d;cases d;have f:=e;subst f;exact hg _ _ _ (c 0 a).1 (c 0 a).2
theorem sees_far{xs:List book.Cu}{bk:List Cm}(h:Sees w p n xs bk)(hg:NoTwo w g)(hU:Upd w W g v' T'):Sees W p n xs bk:=
 ⟨rowC_far h.row hg hU,h.len,h.num,λi a=>came_far (h.ds i a) hg hU,λi a=>rowS_far (h.so i a) hg hU⟩
end vnd
namespace book
open Go.RowKit
open acc (Ac Tm Bi APost BPost TFault TRight OpenIs OweIs SellIs GrantIs RekeyIs wf6 ACame TCame fresh_updN fresh_drew came_lt)
set_option maxRecDepth 100000
def RegR(bk : List Cm)(me : Int)(bk' : List Cm)(f : Int): Prop := (¬ NoneAt bk me ∧ f = 21) ∨ (NoneAt bk me ∧ f = 0 ∧ bk' = bk ++ [⟨⟨me, 0, 1, 0, 0, -1, []⟩, []⟩])
theorem step_cust2{w : World}{o : Oper}{a : Act}{K : Act → World → Prop}{Q : Exit → Act → World → Prop}(d : Nat)(hd : o.dst = some d)(s x : Operand)
  (ho : o.op=.call { callee :=.builtin .append, args := #[s, x], argTypes := #[63, 63] })
  (base G : Nat) (v : Value) (l : List Cu) (r : Cu) (hs : a.eval s = v) (hx : a.eval x=.slice (some ⟨G, 0, none⟩) 1 1) (hv : Lc w base v l) (hu : Blk w G r.cs.toArray 71) (hn : l.length ≤ 2000000) (hbase : base ≤ w.heap.size)
  (h : ∀v' w', Lc w' base v' (l ++ [r]) → w.grownBy w' v.ownBlock → (v'.ownBlock = v.ownBlock ∨ v'.ownBlock = some w.heap.size) → K (a.put (some d) v') w') : Oper.wp Tryz.prog o a w K Q := by
 rw[← hd] at h
 exact step_cust s x ho base G v l r hs hx hv hu hn hbase h
theorem lc_same{w w' : World}{base : Nat}{v : Value}{l : List Cu}(h : Lc w base v l)(he : ∀g, v.ownBlock = some g → w'.heap[g]? = w.heap[g]?): Lc w' base v l := by
 refine⟨h.1, ?_⟩
 rcases h.2 with i|⟨c, a, b, d, e, f, rest⟩
 ·exact .inl i
 ·exact .inr ⟨c, a, b, d, e, by rw[he c (by rw[d]; rfl)]; exact f, rest⟩
theorem Holds.same{w w' : World}{base : Nat}{V : Value}{xs : List Cu}{bk : List Cm}(h : Holds w base V xs bk)(he : ∀g, base ≤ g → w'.heap[g]? = w.heap[g]?): Holds w' base V xs bk :=
 ⟨lc_same h.row (λg a => he g (World.ownsRow.lt h.row g a).1), h.len, λi b => (h.has i b).same (λg a => he g (World.ownsRow.lt (h.has i b).so g a).1) (λc p d => he _ ((h.has i b).ds.new c p d)), h.off, h.self, h.apart⟩
set_option maxHeartbeats 8000000 in
theorem breg(w0 : World)(base gW B : Nat)(t : Tm)(pt : Option Addr)(lt ct : Nat)(a : Option Addr)(n cap : Nat)(xs : List Cu)(bk : List Cm)(me : Int)(w : World)(h : Wr w0 base gW B t pt lt ct (.slice a n cap) xs bk w)(hme : 0 ≤ me ∧ me ≤ 49): Calls Tryz.prog 152 #[.pointer (some ⟨gW, 0, none⟩), .int .i64 me] w λe w' => WPost w0 base gW B t pt lt ct (RegR bk me) w e w' := by
 have HNO : Hid (∀W, zC 164 #[.int .i64 21] W λe w' => e=.panicked (thrown 21) ∧ w' = W) := λW => insist_no 21 (by decide) W
 have HOK : Hid (∀W, zC 164 #[.int .i64 0] W λe w' => e=.returned (.tuple #[]) ∧ w' = W) := λW => insist_ok W
 have HOP := zh (acc.kopen w me (wf_i (by omega) (by omega)))
 have HR : Hid (Wr w0 base gW B t pt lt ct (.slice a n cap) xs bk w) := h
 have HME : Hid (0 ≤ me ∧ me ≤ 49) := hme
 have q6 : w.cell? ⟨gW, 6, none⟩ = some (.map (some B)) := h.blk.cell 6
 have hlk := lookI_run h.mp me
 clear h hme
 cases hf : firstI (mes bk) me with
 |some k =>
  rw[hf] at hlk
  simp only[Option.getD_some, Option.isSome_some] at hlk
  have HN : Hid (¬ NoneAt bk me) := (first_some hf).some
  clear hf
  go_enter Tryz.func152, Tryz.ntmps152
  go_wp2_with fail
  refine(HNO.out _).mono ?_
  rintro e W9 ⟨rfl, rfl⟩
  exact⟨rfl, Kp.refl _ _ _ _, .inr ⟨21, [], by decide, rfl, .inl ⟨HN.out, rfl⟩⟩⟩
 |none =>
  rw[hf] at hlk
  simp only[Option.getD_none, Option.isSome_none] at hlk
  have HN := zh (first_none hf)
  have HFI := zh hf
  clear hf
  go_enter Tryz.func152, Tryz.ntmps152
  go_wp2_with fail
  refine HOP.out.mono ?_
  rintro e w1 ⟨b, pb, lb, cb, f, rfl, hi, hf, hb1⟩
  obtain⟨rfl, rfl⟩ : b = ⟨me, 0, 1, 0, 0, -1, []⟩ ∧ f = 0 := hi.one (.inl ⟨HME.out, rfl, rfl⟩)
  have HLB := zh hf.came.row.1.symm
  have HK1 := zh (HR.out.kp hb1)
  have HF1 := zh (hf.low HR.out.sz)
  have HR1 := zh (HR.out.next hb1)
  have HBW := zh HR.out.bel
  have HGO0 : Hid ((Value.slice a n cap).ownBlock = some w1.heap.size → False) := λq => by have := (World.ownsRow.lt HR1.out.hold.row _ q).2; omega
  clear hb1 hf hi q6 hlk
  unfold acc.Ac.v acc.Ac.cs
  obtain⟨W2, HWW, HA2, HBB, -⟩ := sh1 w1 #[.int .i64 me, .int .i64 0, .int .i64 1, .int .i64 0, .int .i64 0, .int .i64 (-1), .slice pb lb cb] 55
  have HR2 := zh (HR1.out.next HBB.out)
  have HK2 := zh (HK1.out.trans (HR1.out.kp HBB.out))
  have HF2 := zh (HF1.out.below HBB.out)
  have HGA : Hid (base ≤ w1.heap.size) := HR1.out.sz
  go_upto_region 4 with fail
  rw[HWW.out]
  generalize w1.heap.size = ga at *
  go_wp2_with fail
  refine(HOK.out _).mono ?_
  rintro e W9 ⟨rfl, hw9⟩
  obtain rfl : W2 = W9 := hw9.symm
  go_wp2_with fail
  refine wp_region_held_drew (S := λu => Blk u gW #[.slice a n cap, .slice pt lt ct, .int .i64 t.ff, .int .i64 t.fb, .int .i64 t.db, .int .i64 t.al, .map (some B)] 170) (by kernel_rfl) (show _ from Blk.drew HR2.out.blk 1) (λhHeld => ?_)
  have HR3 : Hid (Wr w0 base gW B t pt lt ct (.slice a n cap) xs bk W2.drew) := HR2.out.next zb.drew
  have HK3 : Hid (Kp base gW B w W2.drew) := HK2.out.trans (HR2.out.kp zb.drew)
  have HF3 := zh (fresh_drew HF2.out)
  have HA3 : Hid (Blk W2.drew ga #[.int .i64 me, .int .i64 0, .int .i64 1, .int .i64 0, .int .i64 0, .int .i64 (-1), .slice pb lb cb] 55) := Blk.drew HA2.out 1
  generalize W2.drew = U5 at *
  refine zt' 0 (.pointer (some ⟨gW, 0, none⟩)) ?_
  refine zt' 1 (.pointer (some ⟨gW, 0, none⟩)) ?_
  refine zt' 2 (.pointer (some ⟨gW, 6, none⟩)) ?_
  refine zu' 3 (.map (some B)) rfl rfl (Or.inl ⟨by rfl, λv hv => by have g0 := hv.cell 6; clear hv; go_simp⟩) ?_
  refine zt' 4 (.int .i64 me) ?_
  refine zt' 5 (.pointer (some ⟨gW, 0, none⟩)) ?_
  refine zt' 6 (.pointer (some ⟨gW, 0, none⟩)) ?_
  refine zt' 7 (.pointer (some ⟨gW, 0, none⟩)) ?_
  refine zt' 8 (.pointer (some ⟨gW, 0, none⟩)) ?_
  refine zu' 9 (.slice a n cap) rfl rfl (Or.inl ⟨by rfl, λv hv => by have g0 := hv.cell 0; clear hv; go_simp⟩) ?_
  refine zt' 10 (.int .i64 (n : Int)) ?_
  obtain⟨W3, hup, hmp, hoth, hbel, hsz, hgr⟩ := updI_run HR3.out.mp me HFI.out
  rw[show (mes bk).length = n by rw[mes_len, ← HR3.out.hold.len]; exact(by obtain⟨_, _, hv, _⟩ := HR3.out.hold.row.row; injection hv with _ e1 _; exact e1.symm)] at hup
  refine zo 11 λK hK => ?_
  rw[if_pos (by rfl)]
  refine wp_mapOp 168 _ _ _ rfl (.map (some B)) (.int .i64 me) (.int .i64 (n : Int)) rfl rfl rfl hup rfl ?_
  have HW3 : Hid (Blk W3 gW #[.slice a n cap, .slice pt lt ct, .int .i64 t.ff, .int .i64 t.fb, .int .i64 t.db, .int .i64 t.al, .map (some B)] 170) := by show W3.heap[gW]? = _; rw[hoth gW HR3.out.ne]; exact HR3.out.blk
  have HA6 : Hid (Blk W3 ga #[.int .i64 me, .int .i64 0, .int .i64 1, .int .i64 0, .int .i64 0, .int .i64 (-1), .slice pb lb cb] 55) := by show W3.heap[ga]? = _; rw[hoth ga (by have := HR3.out.gb; have := HGA.out; omega)]; exact HA3.out
  have HM6 : Hid (MpI W3 B (mes bk ++ [me])) := hmp
  have HH6 : Hid (Holds W3 base (.slice a n cap) xs bk) := HR3.out.hold.same (λg hg => hoth g (by have := HR3.out.gb; omega))
  have HF6 : Hid (deb.Fresh W3 base pb lb cb []) := ⟨came_same HF3.out.came (λhn p hp => hoth _ (by have := HF3.out.new hn p hp; have := HR3.out.gb; omega)), HF3.out.new⟩
  have HK6 : Hid (Kp base gW B w W3) := HK3.out.trans ⟨hgr.os, hgr.tape, hgr.output, hgr.size, λk _ _ h2 => hoth k h2⟩
  have HS6 : Hid (base ≤ W3.heap.size) := by show _ ≤ _; rw[hsz]; exact HR3.out.sz
  have HGE : Hid (gW<base ∧ B<base ∧ gW≠B ∧ w0.heap.size ≤ gW ∧ w0.heap.size ≤ B) := ⟨HR3.out.gw, HR3.out.gb, HR3.out.ne, HR3.out.n0, HR3.out.n1⟩
  have HB6 : Hid (zB w0 W3) := hbel _ _ HR3.out.n1 HR3.out.bel
  have HWF : Hid (AWf bk) := HR3.out.wf
  have HSM : Hid (xs.length ≤ 120) := by show _ ≤ _; rw[HR3.out.hold.len]; exact HR3.out.few.1
  clear hup hmp hoth hbel hsz hgr HF3 HA3 HK3
  refine hK.out _ _ HW3.out (λhHeld => ?_)
  clear hK K HR3
  refine wpAnyH_done (by kernel_rfl) ?_ _
  clear hHeld
  go_wp2_with fail
  refine wp_region_held_drew (S := λu => Blk u ga #[.int .i64 me, .int .i64 0, .int .i64 1, .int .i64 0, .int .i64 0, .int .i64 (-1), .slice pb lb cb] 55) (by kernel_rfl) (show _ from Blk.drew HA6.out 1) (λhHeld => ?_)
  have q0 : W3.drew.cell? ⟨gW, 0, none⟩ = some (.slice a n cap) := HW3.out.cell 0
  have G0 : Hid (Blk W3.drew gW #[.slice a n cap, .slice pt lt ct, .int .i64 t.ff, .int .i64 t.fb, .int .i64 t.db, .int .i64 t.al, .map (some B)] 170) := HW3.out
  have G1 : Hid (Blk W3.drew ga #[.int .i64 me, .int .i64 0, .int .i64 1, .int .i64 0, .int .i64 0, .int .i64 (-1), .slice pb lb cb] 55) := HA6.out
  have G2 : Hid (MpI W3.drew B (mes bk ++ [me])) := HM6.out
  have G3 : Hid (Holds W3.drew base (.slice a n cap) xs bk) := HH6.out.same (λg hg => rfl)
  have G4 : Hid (deb.Fresh W3.drew base pb lb cb []) := fresh_drew HF6.out
  have G5 : Hid (Kp base gW B w W3.drew) := HK6.out.trans (.of zb.drew (Nat.le_refl base))
  have G6 : Hid (base ≤ W3.drew.heap.size) := HS6.out
  have G7 : Hid (zB w0 W3.drew) := HB6.out.drew
  clear HW3 HA6 HM6 HH6 HF6 HK6 HS6 HB6
  generalize W3.drew = U at *
  refine zt' 0 (.pointer (some ⟨gW, 0, none⟩)) ?_
  refine zt' 1 (.pointer (some ⟨gW, 0, none⟩)) ?_
  refine zt' 2 (.pointer (some ⟨gW, 0, none⟩)) ?_
  refine zt' 3 (.pointer (some ⟨gW, 0, none⟩)) ?_
  refine zt' 4 (.pointer (some ⟨gW, 0, none⟩)) ?_
  refine zu' 6 (.agg #[.int .i64 me, .int .i64 0, .int .i64 1, .int .i64 0, .int .i64 0, .int .i64 (-1), .slice pb lb cb]) rfl rfl (Or.inl ⟨by rfl, λv hv => by have g0 := hv.cell 0; have g1 := hv.cell 1; have g2 := hv.cell 2; have g3 := hv.cell 3; have g4 := hv.cell 4; have g5 := hv.cell 5; have g6 := hv.cell 6; clear hv; go_simp⟩) ?_
  refine zt' 7 (.agg #[.int .i64 me, .int .i64 0, .int .i64 1, .int .i64 0, .int .i64 0, .int .i64 (-1), .slice pb lb cb, .slice none 0 0]) ?_
  have HB0 : Hid (zB w0 w) := HBW.out
  have HAO : Hid (∀g, (Value.slice a n cap).ownBlock = some g → ga = g → False) := λg hg e1 => by subst e1; exact HGO0.out hg
  refine wpAnyH_ready (rs := [5, 8]) (by kernel_rfl) (by simp) (AllReadyH.cons rfl (λK hK => ?_) (AllReadyH.cons rfl (λK hK => ?_) AllReadyH.nil))
  ·rw[if_pos (by rfl)]
   refine wp_runOp (v :=.slice a n cap) (w' := U) 42 rfl (by clear hK; go_simp) ?_
   refine hK.out _ _ G1.out (λhHeld => ?_)
   clear hK K
   simp only[Act.put, zqa, zqb, zqc]
   refine zo 8 λK hK => ?_
   rw[if_pos (by rfl)]
   refine wp_runOp (v :=.slice (some ⟨U.heap.size, 0, none⟩) 1 1) (w' := (U.alloc (.cells #[.int .i64 me, .int .i64 0, .int .i64 1, .int .i64 0, .int .i64 0, .int .i64 (-1), .slice pb lb cb, .slice none 0 0] 71))) 45 rfl (by clear hK; go_simp) ?_
   refine hK.out _ _ (G1.out.alloc _) (λhHeld => ?_)
   clear hK K q0
   simp only[Act.put, zqa, zqb, zqc]
   have J0 : Hid (Blk (U.alloc (.cells #[.int .i64 me, .int .i64 0, .int .i64 1, .int .i64 0, .int .i64 0, .int .i64 (-1), .slice pb lb cb, .slice none 0 0] 71)) gW #[.slice a n cap, .slice pt lt ct, .int .i64 t.ff, .int .i64 t.fb, .int .i64 t.db, .int .i64 t.al, .map (some B)] 170) := G0.out.alloc _
   have J1 : Hid (Blk (U.alloc (.cells #[.int .i64 me, .int .i64 0, .int .i64 1, .int .i64 0, .int .i64 0, .int .i64 (-1), .slice pb lb cb, .slice none 0 0] 71)) ga #[.int .i64 me, .int .i64 0, .int .i64 1, .int .i64 0, .int .i64 0, .int .i64 (-1), .slice pb lb cb] 55) := G1.out.alloc _
   have J2 : Hid (MpI (U.alloc (.cells #[.int .i64 me, .int .i64 0, .int .i64 1, .int .i64 0, .int .i64 0, .int .i64 (-1), .slice pb lb cb, .slice none 0 0] 71)) B (mes bk ++ [me])) := G2.out.below (zb.alloc zc _)
   have J3 : Hid (Holds (U.alloc (.cells #[.int .i64 me, .int .i64 0, .int .i64 1, .int .i64 0, .int .i64 0, .int .i64 (-1), .slice pb lb cb, .slice none 0 0] 71)) base (.slice a n cap) xs bk) := G3.out.next (zb.alloc zc _)
   have J4 : Hid (deb.Fresh (U.alloc (.cells #[.int .i64 me, .int .i64 0, .int .i64 1, .int .i64 0, .int .i64 0, .int .i64 (-1), .slice pb lb cb, .slice none 0 0] 71)) base pb lb cb []) := G4.out.below (zb.alloc zc _)
   have J5 : Hid (Kp base gW B w (U.alloc (.cells #[.int .i64 me, .int .i64 0, .int .i64 1, .int .i64 0, .int .i64 0, .int .i64 (-1), .slice pb lb cb, .slice none 0 0] 71))) := G5.out.trans (.of (zb.alloc zc _) G6.out)
   have J6 : Hid (base ≤ (U.alloc (.cells #[.int .i64 me, .int .i64 0, .int .i64 1, .int .i64 0, .int .i64 0, .int .i64 (-1), .slice pb lb cb, .slice none 0 0] 71)).heap.size) := by show _ ≤ _; have := G6.out; simp; omega
   have J7 : Hid (zB w0 (U.alloc (.cells #[.int .i64 me, .int .i64 0, .int .i64 1, .int .i64 0, .int .i64 0, .int .i64 (-1), .slice pb lb cb, .slice none 0 0] 71))) := G7.out.alloc G7.out.size _
   have J8 : Hid (Blk (U.alloc (.cells #[.int .i64 me, .int .i64 0, .int .i64 1, .int .i64 0, .int .i64 0, .int .i64 (-1), .slice pb lb cb, .slice none 0 0] 71)) U.heap.size #[.int .i64 me, .int .i64 0, .int .i64 1, .int .i64 0, .int .i64 0, .int .i64 (-1), .slice pb lb cb, .slice none 0 0] 71) := Blk.new _ _ _
   clear G0 G1 G2 G3 G4 G5 G6 G7
   generalize U.heap.size = gn at *
   generalize (U.alloc (.cells #[.int .i64 me, .int .i64 0, .int .i64 1, .int .i64 0, .int .i64 0, .int .i64 (-1), .slice pb lb cb, .slice none 0 0] 71)) = U2 at *
   refine zo 9 λK hK => ?_
   rw[if_pos (by rfl)]
   refine step_cust2 46 rfl _ _ rfl base gn _ xs ⟨me, 0, 1, 0, 0, -1, pb, lb, cb, none, 0, 0⟩ rfl rfl J3.out.row J8.out (by have := HSM.out; omega) J6.out ?_
   intro v3 w9 h3 hg3 ho3
   obtain⟨p3, c3, rfl, _, _, _⟩ := h3.row
   have hown : ∀g, (Value.slice a n cap).ownBlock = some g → base ≤ g := λg hg => (World.ownsRow.lt J3.out.row g hg).1
   have J9 : Hid (Holds w9 base (.slice p3 (xs ++ [(⟨me, 0, 1, 0, 0, -1, pb, lb, cb, none, 0, 0⟩ : Cu)]).length c3) (xs ++ [⟨me, 0, 1, 0, 0, -1, pb, lb, cb, none, 0, 0⟩]) (bk ++ [⟨⟨me, 0, 1, 0, 0, -1, []⟩, []⟩])) := J3.out.snoc ⟨⟨rfl, rfl, rfl, rfl, rfl, rfl⟩, J4.out, Lo.zero _ _⟩ rfl HLB.out h3 hg3 ho3
   have hlow : ∀g, g<base → w9.heap[g]? = U2.heap[g]? := λg hg => hg3.block g (by have := J6.out; omega) (λq => by have := hown g q.symm; omega)
   have L0 : Hid (Blk w9 gW #[.slice a n cap, .slice pt lt ct, .int .i64 t.ff, .int .i64 t.fb, .int .i64 t.db, .int .i64 t.al, .map (some B)] 170) := by show w9.heap[gW]? = _; rw[hlow gW HGE.out.1]; exact J0.out
   have L1 : Hid (Blk w9 ga #[.int .i64 me, .int .i64 0, .int .i64 1, .int .i64 0, .int .i64 0, .int .i64 (-1), .slice pb lb cb] 55) := by show w9.heap[ga]? = _; exact(blk_kept J1.out hg3 (λq => HAO.out _ q.symm rfl))
   have L2 : Hid (MpI w9 B (mes bk ++ [me])) := by show w9.heap[B]? = _; rw[hlow B HGE.out.2.1]; exact J2.out
   have L5 := zh (J5.out.trans (.grown hg3 J6.out hown))
   have L6 : Hid (base ≤ w9.heap.size) := Nat.le_trans J6.out hg3.size
   have L7 : Hid (zB w0 w9) := L5.out.bel (HB0.out) (by have := HGE.out; omega) HGE.out.2.2.2.1 HGE.out.2.2.2.2
   refine hK.out _ _ L1.out (λhHeld => ?_)
   clear hK K h3 hg3 ho3 hown hlow J0 J1 J2 J3 J4 J5 J6 J7 J8
   simp only[Act.put, zqa, zqb, zqc]
   generalize (xs ++ [(⟨me, 0, 1, 0, 0, -1, pb, lb, cb, none, 0, 0⟩ : Cu)]).length = n3 at *
   refine zt' 10 (.pointer (some ⟨gW, 0, none⟩)) ?_
   refine zt' 11 (.pointer (some ⟨gW, 0, none⟩)) ?_
   refine zt' 12 (.pointer (some ⟨gW, 0, none⟩)) ?_
   refine zo 13 λK hK => ?_
   rw[if_pos (by rfl)]
   refine acc.wp_letOp1 63 _ _ rfl gW 0 rfl (.slice p3 n3 c3) rfl rfl (by kernel_rfl) rfl #[.slice a n cap, .slice pt lt ct, .int .i64 t.ff, .int .i64 t.fb, .int .i64 t.db, .int .i64 t.al, .map (some B)] 170 L0.out (by simp) rfl ?_
   intro WF hU
   have M1 : Hid (Blk WF ga #[.int .i64 me, .int .i64 0, .int .i64 1, .int .i64 0, .int .i64 0, .int .i64 (-1), .slice pb lb cb] 55) := hU.keep L1.out (by have := HGE.out.1; have := HGA.out; omega)
   have MF : Hid (WPost w0 base gW B t pt lt ct (RegR bk me) w (.returned (.tuple #[])) WF) := by
    refine⟨L5.out.trans (.upd hU (.inr rfl)), .inl ⟨.slice p3 n3 c3, _, _, rfl, .inr ⟨HN.out, rfl, rfl⟩, λhsm => ⟨hU.blk, ?_, J9.out.same (λg hg => hU.oth g (by have := HGE.out.1; omega)), HGE.out.1, HGE.out.2.1, HGE.out.2.2.1, HGE.out.2.2.2.1, HGE.out.2.2.2.2, by rw[hU.size]; exact L6.out, hU.bel _ _ HGE.out.2.2.2.1 L7.out, hsm, ?_⟩⟩⟩
    ·have e1 : mes (bk ++ [(⟨⟨me, 0, 1, 0, 0, -1, []⟩, []⟩ : Cm)]) = mes bk ++ [me] := by simp[mes]
     rw[e1]
     show WF.heap[B]? = _
     rw[hU.oth B (Ne.symm HGE.out.2.2.1)]
     exact L2.out
    ·refine HWF.out.snoc ?_
     have hm := HME.out
     exact⟨wf_i (z := me) (by omega) (by omega), wf_i (z := 0) (by omega) (by omega), wf_i (z := 1) (by omega) (by omega), wf_i (z := 0) (by omega) (by omega), wf_i (z := 0) (by omega) (by omega), wf_i (z := -1) (by omega) (by omega)⟩
   refine hK.out _ _ M1.out (λhHeld => ?_)
   clear hK K hU
   refine wpAnyH_done (by kernel_rfl) ?_ _
   clear hHeld
   go_wp2_with fail
   go_end0
   exact MF.out
  ·rw[if_pos (by rfl)]
   refine wp_runOp (v :=.slice (some ⟨U.heap.size, 0, none⟩) 1 1) (w' := (U.alloc (.cells #[.int .i64 me, .int .i64 0, .int .i64 1, .int .i64 0, .int .i64 0, .int .i64 (-1), .slice pb lb cb, .slice none 0 0] 71))) 45 rfl (by clear hK; go_simp) ?_
   refine hK.out _ _ (G1.out.alloc _) (λhHeld => ?_)
   clear hK K q0
   simp only[Act.put, zqa, zqb, zqc]
   have q0 : (U.alloc (.cells #[.int .i64 me, .int .i64 0, .int .i64 1, .int .i64 0, .int .i64 0, .int .i64 (-1), .slice pb lb cb, .slice none 0 0] 71)).cell? ⟨gW, 0, none⟩ = some (.slice a n cap) := (G0.out.alloc _).cell 0
   refine zo 5 λK hK => ?_
   rw[if_pos (by rfl)]
   refine wp_runOp (v :=.slice a n cap) (w' := (U.alloc (.cells #[.int .i64 me, .int .i64 0, .int .i64 1, .int .i64 0, .int .i64 0, .int .i64 (-1), .slice pb lb cb, .slice none 0 0] 71))) 42 rfl (by clear hK; go_simp) ?_
   refine hK.out _ _ (G1.out.alloc _) (λhHeld => ?_)
   clear hK K q0
   simp only[Act.put, zqa, zqb, zqc]
   have J0 : Hid (Blk (U.alloc (.cells #[.int .i64 me, .int .i64 0, .int .i64 1, .int .i64 0, .int .i64 0, .int .i64 (-1), .slice pb lb cb, .slice none 0 0] 71)) gW #[.slice a n cap, .slice pt lt ct, .int .i64 t.ff, .int .i64 t.fb, .int .i64 t.db, .int .i64 t.al, .map (some B)] 170) := G0.out.alloc _
   have J1 : Hid (Blk (U.alloc (.cells #[.int .i64 me, .int .i64 0, .int .i64 1, .int .i64 0, .int .i64 0, .int .i64 (-1), .slice pb lb cb, .slice none 0 0] 71)) ga #[.int .i64 me, .int .i64 0, .int .i64 1, .int .i64 0, .int .i64 0, .int .i64 (-1), .slice pb lb cb] 55) := G1.out.alloc _
   have J2 : Hid (MpI (U.alloc (.cells #[.int .i64 me, .int .i64 0, .int .i64 1, .int .i64 0, .int .i64 0, .int .i64 (-1), .slice pb lb cb, .slice none 0 0] 71)) B (mes bk ++ [me])) := G2.out.below (zb.alloc zc _)
   have J3 : Hid (Holds (U.alloc (.cells #[.int .i64 me, .int .i64 0, .int .i64 1, .int .i64 0, .int .i64 0, .int .i64 (-1), .slice pb lb cb, .slice none 0 0] 71)) base (.slice a n cap) xs bk) := G3.out.next (zb.alloc zc _)
   have J4 : Hid (deb.Fresh (U.alloc (.cells #[.int .i64 me, .int .i64 0, .int .i64 1, .int .i64 0, .int .i64 0, .int .i64 (-1), .slice pb lb cb, .slice none 0 0] 71)) base pb lb cb []) := G4.out.below (zb.alloc zc _)
   have J5 : Hid (Kp base gW B w (U.alloc (.cells #[.int .i64 me, .int .i64 0, .int .i64 1, .int .i64 0, .int .i64 0, .int .i64 (-1), .slice pb lb cb, .slice none 0 0] 71))) := G5.out.trans (.of (zb.alloc zc _) G6.out)
   have J6 : Hid (base ≤ (U.alloc (.cells #[.int .i64 me, .int .i64 0, .int .i64 1, .int .i64 0, .int .i64 0, .int .i64 (-1), .slice pb lb cb, .slice none 0 0] 71)).heap.size) := by show _ ≤ _; have := G6.out; simp; omega
   have J7 : Hid (zB w0 (U.alloc (.cells #[.int .i64 me, .int .i64 0, .int .i64 1, .int .i64 0, .int .i64 0, .int .i64 (-1), .slice pb lb cb, .slice none 0 0] 71))) := G7.out.alloc G7.out.size _
   have J8 : Hid (Blk (U.alloc (.cells #[.int .i64 me, .int .i64 0, .int .i64 1, .int .i64 0, .int .i64 0, .int .i64 (-1), .slice pb lb cb, .slice none 0 0] 71)) U.heap.size #[.int .i64 me, .int .i64 0, .int .i64 1, .int .i64 0, .int .i64 0, .int .i64 (-1), .slice pb lb cb, .slice none 0 0] 71) := Blk.new _ _ _
   clear G0 G1 G2 G3 G4 G5 G6 G7
   generalize U.heap.size = gn at *
   generalize (U.alloc (.cells #[.int .i64 me, .int .i64 0, .int .i64 1, .int .i64 0, .int .i64 0, .int .i64 (-1), .slice pb lb cb, .slice none 0 0] 71)) = U2 at *
   refine zo 9 λK hK => ?_
   rw[if_pos (by rfl)]
   refine step_cust2 46 rfl _ _ rfl base gn _ xs ⟨me, 0, 1, 0, 0, -1, pb, lb, cb, none, 0, 0⟩ rfl rfl J3.out.row J8.out (by have := HSM.out; omega) J6.out ?_
   intro v3 w9 h3 hg3 ho3
   obtain⟨p3, c3, rfl, _, _, _⟩ := h3.row
   have hown : ∀g, (Value.slice a n cap).ownBlock = some g → base ≤ g := λg hg => (World.ownsRow.lt J3.out.row g hg).1
   have J9 : Hid (Holds w9 base (.slice p3 (xs ++ [(⟨me, 0, 1, 0, 0, -1, pb, lb, cb, none, 0, 0⟩ : Cu)]).length c3) (xs ++ [⟨me, 0, 1, 0, 0, -1, pb, lb, cb, none, 0, 0⟩]) (bk ++ [⟨⟨me, 0, 1, 0, 0, -1, []⟩, []⟩])) := J3.out.snoc ⟨⟨rfl, rfl, rfl, rfl, rfl, rfl⟩, J4.out, Lo.zero _ _⟩ rfl HLB.out h3 hg3 ho3
   have hlow : ∀g, g<base → w9.heap[g]? = U2.heap[g]? := λg hg => hg3.block g (by have := J6.out; omega) (λq => by have := hown g q.symm; omega)
   have L0 : Hid (Blk w9 gW #[.slice a n cap, .slice pt lt ct, .int .i64 t.ff, .int .i64 t.fb, .int .i64 t.db, .int .i64 t.al, .map (some B)] 170) := by show w9.heap[gW]? = _; rw[hlow gW HGE.out.1]; exact J0.out
   have L1 : Hid (Blk w9 ga #[.int .i64 me, .int .i64 0, .int .i64 1, .int .i64 0, .int .i64 0, .int .i64 (-1), .slice pb lb cb] 55) := by show w9.heap[ga]? = _; exact(blk_kept J1.out hg3 (λq => HAO.out _ q.symm rfl))
   have L2 : Hid (MpI w9 B (mes bk ++ [me])) := by show w9.heap[B]? = _; rw[hlow B HGE.out.2.1]; exact J2.out
   have L5 := zh (J5.out.trans (.grown hg3 J6.out hown))
   have L6 : Hid (base ≤ w9.heap.size) := Nat.le_trans J6.out hg3.size
   have L7 : Hid (zB w0 w9) := L5.out.bel (HB0.out) (by have := HGE.out; omega) HGE.out.2.2.2.1 HGE.out.2.2.2.2
   refine hK.out _ _ L1.out (λhHeld => ?_)
   clear hK K h3 hg3 ho3 hown hlow J0 J1 J2 J3 J4 J5 J6 J7 J8
   simp only[Act.put, zqa, zqb, zqc]
   generalize (xs ++ [(⟨me, 0, 1, 0, 0, -1, pb, lb, cb, none, 0, 0⟩ : Cu)]).length = n3 at *
   refine zt' 10 (.pointer (some ⟨gW, 0, none⟩)) ?_
   refine zt' 11 (.pointer (some ⟨gW, 0, none⟩)) ?_
   refine zt' 12 (.pointer (some ⟨gW, 0, none⟩)) ?_
   refine zo 13 λK hK => ?_
   rw[if_pos (by rfl)]
   refine acc.wp_letOp1 63 _ _ rfl gW 0 rfl (.slice p3 n3 c3) rfl rfl (by kernel_rfl) rfl #[.slice a n cap, .slice pt lt ct, .int .i64 t.ff, .int .i64 t.fb, .int .i64 t.db, .int .i64 t.al, .map (some B)] 170 L0.out (by simp) rfl ?_
   intro WF hU
   have M1 : Hid (Blk WF ga #[.int .i64 me, .int .i64 0, .int .i64 1, .int .i64 0, .int .i64 0, .int .i64 (-1), .slice pb lb cb] 55) := hU.keep L1.out (by have := HGE.out.1; have := HGA.out; omega)
   have MF : Hid (WPost w0 base gW B t pt lt ct (RegR bk me) w (.returned (.tuple #[])) WF) := by
    refine⟨L5.out.trans (.upd hU (.inr rfl)), .inl ⟨.slice p3 n3 c3, _, _, rfl, .inr ⟨HN.out, rfl, rfl⟩, λhsm => ⟨hU.blk, ?_, J9.out.same (λg hg => hU.oth g (by have := HGE.out.1; omega)), HGE.out.1, HGE.out.2.1, HGE.out.2.2.1, HGE.out.2.2.2.1, HGE.out.2.2.2.2, by rw[hU.size]; exact L6.out, hU.bel _ _ HGE.out.2.2.2.1 L7.out, hsm, ?_⟩⟩⟩
    ·have e1 : mes (bk ++ [(⟨⟨me, 0, 1, 0, 0, -1, []⟩, []⟩ : Cm)]) = mes bk ++ [me] := by simp[mes]
     rw[e1]
     show WF.heap[B]? = _
     rw[hU.oth B (Ne.symm HGE.out.2.2.1)]
     exact L2.out
    ·refine HWF.out.snoc ?_
     have hm := HME.out
     exact⟨wf_i (z := me) (by omega) (by omega), wf_i (z := 0) (by omega) (by omega), wf_i (z := 1) (by omega) (by omega), wf_i (z := 0) (by omega) (by omega), wf_i (z := 0) (by omega) (by omega), wf_i (z := -1) (by omega) (by omega)⟩
   refine hK.out _ _ M1.out (λhHeld => ?_)
   clear hK K hU
   refine wpAnyH_done (by kernel_rfl) ?_ _
   clear hHeld
   go_wp2_with fail
   go_end0
   exact MF.out
end book
namespace words
open Go.RowKit
def hf(f:Nat→Nat)(i n:Nat):Nat:=nf (λj=>f (i+j)) (n-i)
theorem hf_zero(f:Nat→Nat)(n:Nat):hf f 0 n=nf f n:=by
 unfold hf;exact nf_congr λj _=>by rw[Nat.zero_add]
theorem hf_top(f:Nat→Nat)(n:Nat):hf f n n=0:=by unfold hf;rw[Nat.sub_self];rfl
theorem hf_step(f:Nat→Nat){i n:Nat}(h:i<n):hf f i n=f i+4294967296*hf f (i+1) n:=by
 unfold hf;rw[show n-i=(n-(i+1))+1 by omega,nf_cons]
 congr 2
 exact nf_congr λj _=>by rw[show i+(j+1)=i+1+j by omega]
theorem hf_congr{f g:Nat→Nat}{i n:Nat}(h:∀j,i≤j→f j=g j):hf f i n=hf g i n:=by
 unfold hf;exact nf_congr λj _=>h _ (by omega)
theorem small_step{Q A r d x:Nat}(h:Q*d+r=A):((r*4294967296+x)/d+4294967296*Q)*d+(r*4294967296+x)%d=x+4294967296*A:=by
 have e:=Nat.div_add_mod (r*4294967296+x) d;have a:(r*4294967296+x)/d*d=d*((r*4294967296+x)/d):=Nat.mul_comm _ _;rw[Nat.add_mul,← h,Nat.mul_add,← Nat.mul_assoc 4294967296 Q d];omega
theorem small_fin{Q r d m:Nat}(h:Q*d+r=m)(hr:r<d):Q=m/d∧r=m%d:=by
 have a:m/d=Q:=by
  rw[← h,Nat.mul_comm,Nat.mul_add_div (by omega),Nat.div_eq_of_lt hr,Nat.add_zero]
 have b:m%d=r:=by
  rw[← h,Nat.mul_comm,Nat.mul_add_mod,Nat.mod_eq_of_lt hr]
 exact⟨a.symm,b.symm⟩
def TrimAt(w:World)(a:Option Addr)(cap m:Nat)(e:Ending)(w':World):Prop:=w'=w∧∃k,e=.returned (.slice a k cap)∧Ru w a k cap (dig m)
theorem trim_at(a:Option Addr)(n cap:Nat)(l:List Nat)(w:World)(h:Ru w a n cap l)(hn:n≤1000):
  Calls Tryz.prog 176 #[.slice a n cap] w λe w'=>TrimAt w a cap (nv l) e w':=by
 have d:Hid (Ru w a n cap l):=h;clear h;go_enter Tryz.func176,Tryz.ntmps176;go_wp2_with fail;go_loop [3] (λv=>∃k:Nat,k≤n∧v=zI k∧∀i,k≤i→i<n→l.getD i 0=0) (λv=>(intOf v).toNat)
 case atStart=>exact⟨n,zc,rfl,λi q m=>by omega⟩
 case round=>
  obtain⟨k,t,rfl,D⟩:=hrel;have B:Hid (∀i,k≤i→i<n→l.getD i 0=0):=D;clear D
  have j:(k=0∨l.getD (k-1) 0≠0)→TrimAt w a cap (nv l) (.returned (.slice a k cap)) w:=λI=>by
   have e:=trim_dig l k d.o.lt (by rw[d.o.len];exact t) (λi q m=>B.o i q (by rw[d.o.len] at m;exact m)) I;refine⟨rfl,k,rfl,?_⟩;rw[← e];refine⟨by rw[List.length_take,d.o.len];omega,λx K=>d.o.lt x (List.mem_of_mem_take K),d.o.nil,Nat.le_trans t d.o.room,?_,λb f s e hn=>d.o.typ b f s e (by omega)⟩;rcases d.o.cell with L|⟨b,f,rfl,p⟩
   ·exact .inl (by omega)
   ·refine .inr ⟨b,f,rfl,λi J=>?_⟩;rw[p i (by omega)]
    congr 3
    simp[List.getD,J]
  have A:Hid ((k=0∨l.getD (k-1) 0≠0)→TrimAt w a cap (nv l) (.returned (.slice a k cap)) w):=j;have z:=slice_top a n cap k w t d.o.room d.o.nil;clear j;by_cases u:k=0
  ·subst u;go_wp2_with fail;go_ret;exact A.o (.inl (by trivial))
  ·obtain⟨b,f,rfl,p⟩:=d.o.at (i:=k-1) (by omega);have G:(k:Int)-1=((k-1:Nat):Int):=by omega
   have kp:(0:Int)<(k:Int):=by omega
   by_cases c:l.getD (k-1) 0=0
   ·rw[c] at p
    have F:Hid (∀i,k-1≤i→i<n→l.getD i 0=0):=λi q m=>by
     by_cases e:i=k-1
     ·rw[e];exact c
     ·exact B.o i (by omega) m
    clear z c;have C:k-1<n:=by omega
    generalize r:k-1=g at *;go_wp2_with fail;go_round
    case rel=>exact⟨g,by omega,by go_num,F.o⟩
    case measure=>simp[intOf];omega
   ·have H:((((l.getD (k-1) 0:Nat):Int))==0)=false:=beq_eq_false_iff_ne.2 (by omega);have E:Hid (l.getD (k-1) 0≠0):=c;clear c;have C:k-1<n:=by omega
    generalize ((l.getD (k-1) 0:Nat):Int)=y at H p;generalize r:k-1=g at p G C;go_wp2_with fail;go_ret;exact A.o (.inr E.o)
def SmallGives(w:World)(m r:Nat)(e:Ending)(w':World):Prop:=∃a n cap,e=.returned (.tuple #[.slice a n cap,.int .u32 (r:Int)])∧Ru w' a n cap (dig m)∧zB w w'∧∀b off,a=some ⟨b,off,none⟩→w.heap.size≤b
theorem small_any(a:Option Addr)(n ca d:Nat)(la:List Nat)(w:World)(ha:Ru w a n ca la)(hn:n≤100)(d0:0<d)(d1:d<4294967296):
  Calls Tryz.prog 141 #[.slice a n ca,.int .u32 (d:Int)] w λe w'=>SmallGives w (nv la/d) (nv la%d) e w':=by
 obtain⟨i0,U,D,E,F⟩:=info_parts info_u32;have G:Hid (Ru w a n ca la):=ha;clear ha;go_enter Tryz.func141,Tryz.ntmps141
 go_wp2_with (first
  | (at_make;refine wpList_make_full _ rfl _ _ 25 rfl w.heap.size 83 i0 (.int .u32 0) 1 Tryz.underlying25 U D E _ _ _ _ n rfl rfl ?c0 ?c1 ?c2 ?c3 ?c4 ?_))
 try (case c0=>first|rfl|(congr 1;omega))
 try (case c1=>first|rfl|(congr 1;omega))
 case c2=>first|omega|(rw[F];omega)
 case c3=>unfold maxLen;omega
 try (case c4=>simp)
 intro W p z;have L:Hid (RowU W w.heap.size n (λ_=>0)):=rowU_made p;have H:Hid (zB w W):=zb.grown z zc (λk hk=>by cases hk);clear p z U D E F;go_wp2_with fail;go_loopw [7,8] (λrv S wr=>∃(k r:Nat)(f:Nat→Nat),k≤n∧S=zI ((k:Int)-1)∧rv=.int .u64 (r:Int)∧r<d∧RowU wr w.heap.size n f∧(∀j,j<n→f j<4294967296)∧zB w wr∧hf f k n*d+r=hf (λj=>la.getD j 0) k n) (λ_ S _=>(intOf S+1).toNat)
 case atStart=>exact⟨n,0,λ_=>0,zc,rfl,rfl,d0,L.o,λ_ _=>(by decide:0<4294967296),H.o,by rw[hf_top,hf_top,Nat.zero_mul]⟩
 case round=>
  obtain⟨k,r,f,a0,rfl,rfl,B,c,m,y,h⟩:=hrel;by_cases N:k=0
  ·subst N;have K:Hid (Ru wr (some ⟨w.heap.size,0,none⟩) n n ((List.range n).map f)):=c.ru m;have X:Hid (zB w wr):=y
   have l:nv ((List.range n).map f)=nv la/d∧r=nv la%d:=by
    rw[hf_zero,hf_zero,← nv_more la (by rw[G.o.len];exact zc),← nv_range] at h;exact small_fin h B
   have J:Hid (nv ((List.range n).map f)=nv la/d):=l.1;have HM:Hid (r=nv la%d):=l.2;have rb:(r:Int)<4294967296:=by omega
   have rm:(r:Int)%4294967296=r:=by omega
   clear c m y h l;go_wp2_with fail;refine(trim_at _ _ _ _ _ K.o (by omega)).mono ?_;rintro e w3 ⟨rfl,T,rfl,s⟩;rw[J.o] at s;have Z:Hid (SmallGives w (nv la/d) (nv la%d) (.returned (.tuple #[.slice (some ⟨w.heap.size,0,none⟩) T n,.int .u32 (r:Int)])) w3):=⟨some ⟨w.heap.size,0,none⟩,T,n,by rw[HM.o],s,X.o,λb a2 e=>by simp at e;omega⟩
   clear s;go_wp2_with fail;refine bodyPost_ret (v:=.tuple #[.slice (some ⟨w.heap.size,0,none⟩) T n,.int .u32 (r:Int)]) (by simp[results,Tryz.results141,go_sem]) rfl Z.o
  ·obtain⟨g,rfl⟩:∃g,k=g+1:=⟨k-1,by omega⟩
   have eg:((g+1:Nat):Int)-1=(g:Int):=by omega
   rw[eg];obtain⟨ba,oa,rfl,M⟩:=(G.o.below y).at (i:=g) (by omega);have hx:=G.o.word g;obtain⟨x,hxx⟩:∃x,la.getD g 0=x:=⟨_,rfl⟩
   rw[hxx] at M hx;have r0:=c.cell (i:=g) (by omega);have f0:=c.free g;obtain⟨fi,hfi⟩:∃fi:Int,((f g:Nat):Int)=fi:=⟨_,rfl⟩
   rw[hfi] at r0;clear hfi;have gn:(g:Int)<(n:Int):=by omega
   have O:=or_words r x (by omega) (by omega) (by omega) (by omega);have e0:(r:Int)*4294967296+(x:Int)=((r*4294967296+x:Nat):Int):=by omega
   have C:=small_step (Q:=hf f (g+1) n) (A:=hf (λj=>la.getD j 0) (g+1) n) (r:=r) (d:=d) (x:=x) h
   have P:(r*4294967296+x)/d<4294967296:=by
    rw[Nat.div_lt_iff_lt_mul d0];have:(r+1)*4294967296≤d*4294967296:=Nat.mul_le_mul_right _ B;rw[Nat.mul_comm 4294967296 d];omega
   have Y:Hid (∀j,j<n→updU f g ((r*4294967296+x)/d) j<4294967296):=λj V=>by
    unfold updU;split
    ·exact P
    ·exact m j V
   have J:Hid (hf (updU f g ((r*4294967296+x)/d)) g n*d+(r*4294967296+x)%d=hf (λj=>la.getD j 0) g n):=by
    have e3:hf (updU f g ((r*4294967296+x)/d)) (g+1) n=hf f (g+1) n:=hf_congr λj V=>by unfold updU;rw[if_neg (by omega)]
    have e4:updU f g ((r*4294967296+x)/d) g=(r*4294967296+x)/d:=by unfold updU;rw[if_pos rfl]
    have t:hf (updU f g ((r*4294967296+x)/d)) g n*d+(r*4294967296+x)%d=hf (λj=>la.getD j 0) g n:=by
     rw[hf_step _ (by omega:g<n),hf_step (λj=>la.getD j 0) (by omega:g<n),e3,e4,hxx];exact C
    exact t
   have R:(r*4294967296+x)%d<d:=Nat.mod_lt _ d0;have a1:r*4294967296+x<18446744073709551616:=by omega
   generalize hq:r*4294967296+x=q at *;rw[e0] at O;have e1:((q:Nat):Int)/(d:Int)=((q/d:Nat):Int):=by simp
   have e2:((q:Nat):Int)%(d:Int)=((q%d:Nat):Int):=by simp
   have K:Hid (RowU (wr.setCell ⟨w.heap.size,g,none⟩ (.int .u32 ((q/d:Nat):Int))) w.heap.size n (updU f g (q/d))):=c.set _ _;have I:Hid (zB w (wr.setCell ⟨w.heap.size,g,none⟩ (.int .u32 ((q/d:Nat):Int)))):=below_set y _ _ _ zc;clear C h m c y hxx hq;have di:0<(d:Int):=by omega
   have dl:(d:Int)<4294967296:=by omega
   have dz:((d:Int)==0)=false:=beq_eq_false_iff_ne.2 (by omega);generalize q/d=u at *;have ql:(u:Int)<4294967296:=by omega
   have qm:(u:Int)%4294967296=(u:Int):=by omega
   generalize q%d=v at *;go_wp2_with fail;go_roundw
   case rel=>exact⟨g,v,_,by omega,by go_num,by first|rfl|rw[e2],R,K.o,Y.o,I.o,J.o⟩
   case measure=>first|(simp[intOf];done)|(simp[intOf];omega)
end words
end Go.Proofs.YtoepgdhiepedeaaGreatDoor
