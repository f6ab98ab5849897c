import Derived.Test.YtoepgdhiepedeaaGreatDoorVVGts7
import Derived.Test.YtoepgdhiepedeaaGreatDoorVVGts8
set_option linter.unusedVariables false
set_option linter.unusedSimpArgs false
set_option maxHeartbeats 4000000
set_option maxRecDepth 100000
namespace Go.Proofs.YtoepgdhiepedeaaGreatDoor
namespace rcp
structure Rc where
 me:Int
 id:Int
 te:Int
 de:Int
 fe:Int
 pr:Int
 ch:Int
 un:Int
 tk:List UInt8
def rc0:Rc:=⟨0,0,0,0,0,0,0,0,[]⟩
end rcp
namespace cell
open Go.RowKit
theorem in_yes(n lo hi:Int)(w:World)(h1:lo≤n)(h2:n≤hi):
  Calls Tryz.prog 47 #[zI n,zI lo,zI hi] w λe w'=>e=.returned (.bool true)∧w'=w:=by
 go_enter Tryz.func47,Tryz.ntmps47;go_wp2;go_ret;exact⟨rfl,rfl⟩
theorem in_no(n lo hi:Int)(w:World)(h:n<lo∨hi<n):
  Calls Tryz.prog 47 #[zI n,zI lo,zI hi] w λe w'=>e=.returned (.bool false)∧w'=w:=by
 by_cases a:n<lo
 ·clear h;go_enter Tryz.func47,Tryz.ntmps47;go_wp2;go_ret;exact⟨rfl,rfl⟩
 ·have b:lo≤n:=by omega
  have c:decide (n≤hi)=false:=by simp;omega
  clear h a;go_enter Tryz.func47,Tryz.ntmps47;go_wp2;go_ret;exact⟨rfl,rfl⟩
end cell
namespace ora
open Go.RowKit
theorem in_yes(n lo hi:Int)(w:World)(h1:lo≤n)(h2:n≤hi):
  Calls Tryz.prog 47 #[zI n,zI lo,zI hi] w λe w'=>e=.returned (.bool true)∧w'=w:=by
 go_enter Tryz.func47,Tryz.ntmps47;go_wp2;go_ret;exact⟨rfl,rfl⟩
theorem in_no(n lo hi:Int)(w:World)(h:n<lo∨hi<n):
  Calls Tryz.prog 47 #[zI n,zI lo,zI hi] w λe w'=>e=.returned (.bool false)∧w'=w:=by
 by_cases a:n<lo
 ·clear h;go_enter Tryz.func47,Tryz.ntmps47;go_wp2;go_ret;exact⟨rfl,rfl⟩
 ·have b:lo≤n:=by omega
  have c:decide (n≤hi)=false:=by simp;omega
  clear h a;go_enter Tryz.func47,Tryz.ntmps47;go_wp2;go_ret;exact⟨rfl,rfl⟩
theorem pairMay_any(m r b t:Int)(w:World):
  Calls Tryz.prog 54 #[.agg #[zI m,zI r,zI b,zI t]] w λe w'=>Told w (Pr.mk m r b t).may e w':=by
 have l:=Blk.new w #[zI m,zI r,zI b,zI t] 87;have c0:=l.cell 0;have c1:=l.cell 1;have c2:=l.cell 2;have y:=l.cell 3;have k:Hid (zB w (w.alloc (.cells #[zI m,zI r,zI b,zI t] 87))):=zb.alloc zc _;clear l;by_cases c:0≤m∧m≤49
 ·have g:Hid (∀W,zC 47 #[zI m,zI 0,zI 49] W λe w'=>e=.returned (.bool true)∧w'=W):=λW=>in_yes _ _ _ W c.1 c.2;by_cases d:0≤r∧r≤15
  ·have j:Hid (∀W,zC 47 #[zI r,zI 0,zI 15] W λe w'=>e=.returned (.bool true)∧w'=W):=λW=>in_yes _ _ _ W d.1 d.2;by_cases f:0≤b∧b≤8796093022207
   ·have n:Hid (∀W,zC 47 #[zI b,zI 0,zI 8796093022207] W λe w'=>e=.returned (.bool true)∧w'=W):=λW=>in_yes _ _ _ W f.1 f.2;by_cases i:0≤t∧t≤65535
    ·have q:Hid (∀W,zC 47 #[zI t,zI 0,zI 65535] W λe w'=>e=.returned (.bool true)∧w'=W):=λW=>in_yes _ _ _ W i.1 i.2;have a:Hid ((Pr.mk m r b t).may):=⟨c,d,f,i⟩
     clear c d f i;go_enter Tryz.func54,Tryz.ntmps54;go_wp2_with fail;refine(g.o _).mono ?_;rintro e p ⟨rfl,rfl⟩;go_wp2_with fail;refine(j.o _).mono ?_;rintro e s ⟨rfl,rfl⟩;go_wp2_with fail;refine(n.o _).mono ?_;rintro e u ⟨rfl,rfl⟩;go_wp2_with fail;refine(q.o _).mono ?_;rintro e x ⟨rfl,rfl⟩;go_wp2_with fail;go_ret;exact Told.yes a.o k.o
    ·have q:Hid (∀W,zC 47 #[zI t,zI 0,zI 65535] W λe w'=>e=.returned (.bool false)∧w'=W):=λW=>in_no _ _ _ W (by omega);have a:Hid (¬ (Pr.mk m r b t).may):=λh=>i h.2.2.2;clear c d f i;go_enter Tryz.func54,Tryz.ntmps54;go_wp2_with fail;refine(g.o _).mono ?_;rintro e p ⟨rfl,rfl⟩;go_wp2_with fail;refine(j.o _).mono ?_;rintro e s ⟨rfl,rfl⟩;go_wp2_with fail;refine(n.o _).mono ?_;rintro e u ⟨rfl,rfl⟩;go_wp2_with fail;refine(q.o _).mono ?_;rintro e x ⟨rfl,rfl⟩;go_wp2_with fail;go_ret;exact Told.no a.o k.o
   ·have n:Hid (∀W,zC 47 #[zI b,zI 0,zI 8796093022207] W λe w'=>e=.returned (.bool false)∧w'=W):=λW=>in_no _ _ _ W (by omega);have a:Hid (¬ (Pr.mk m r b t).may):=λh=>f h.2.2.1;clear c d f;go_enter Tryz.func54,Tryz.ntmps54;go_wp2_with fail;refine(g.o _).mono ?_;rintro e p ⟨rfl,rfl⟩;go_wp2_with fail;refine(j.o _).mono ?_;rintro e s ⟨rfl,rfl⟩;go_wp2_with fail;refine(n.o _).mono ?_;rintro e u ⟨rfl,rfl⟩;go_wp2_with fail;go_ret;exact Told.no a.o k.o
  ·have j:Hid (∀W,zC 47 #[zI r,zI 0,zI 15] W λe w'=>e=.returned (.bool false)∧w'=W):=λW=>in_no _ _ _ W (by omega);have a:Hid (¬ (Pr.mk m r b t).may):=λh=>d h.2.1;clear c d;go_enter Tryz.func54,Tryz.ntmps54;go_wp2_with fail;refine(g.o _).mono ?_;rintro e p ⟨rfl,rfl⟩;go_wp2_with fail;refine(j.o _).mono ?_;rintro e s ⟨rfl,rfl⟩;go_wp2_with fail;go_ret;exact Told.no a.o k.o
 ·have g:Hid (∀W,zC 47 #[zI m,zI 0,zI 49] W λe w'=>e=.returned (.bool false)∧w'=W):=λW=>in_no _ _ _ W (by omega);have a:Hid (¬ (Pr.mk m r b t).may):=λh=>c h.1;clear c;go_enter Tryz.func54,Tryz.ntmps54;go_wp2_with fail;refine(g.o _).mono ?_;rintro e p ⟨rfl,rfl⟩;go_wp2_with fail;go_ret;exact Told.no a.o k.o
theorem tagged_any(a:Option Addr)(n cap:Nat)(l:List Pr)(m r b:Int)(w:World)(hr:RowP w a n l)(hn:n≤9223372036854775807):
  Calls Tryz.prog 56 #[.agg #[.slice a n cap],zI m,zI r,zI b] w λe w'=>TagPost w l m r b e w':=by
 have E:Hid (Bo w (w.alloc (.cells #[.slice a n cap] 28)) a n cap l):=Bo.new hr;have I:Hid (l.length=n):=hr.1;clear hr;go_enter Tryz.func56,Tryz.ntmps56;go_wp2_with fail;generalize w.alloc (.cells #[.slice a n cap] 28)=S at *;go_loopw [9] (λj wr=>∃k:Nat,k≤n∧j=zI (k:Int)∧Hid (∀i,i<k→¬ (l.getD i pr0).key m r b)∧Bo w wr a n cap l) (λj _=>n-(intOf j).toNat)
 case atStart=>exact⟨0,Nat.zero_le _,rfl,λi K=>absurd K (Nat.not_lt_zero _),E.o⟩
 case round=>
  obtain⟨k,X,rfl,D,x⟩:=hrel;have B:Hid (Bo w wr a n cap l):=x;clear x;have c0:=B.o.box.cell 0;by_cases y:k<n
  ·obtain⟨O,H,rfl,_,J⟩:=B.o.row.at (by omega);obtain⟨T,U,V,W⟩:=J k y;have c:Hid ((l.getD k pr0).key m r b↔(l.getD k pr0).m=m∧(l.getD k pr0).r=r∧(l.getD k pr0).b=b):=Iff.rfl
   have q:Hid (¬ (l.getD k pr0).key m r b→∀i,i<k+1→¬ (l.getD i pr0).key m r b):=λG i K=>by
    by_cases e:i=k
    ·subst e;exact G
    ·exact D.o i (by omega)
   have F:Hid ((l.getD k pr0).key m r b→At l m r b k):=λG=>⟨by rw[I.o];exact y,G,D.o⟩;clear J;generalize (l.getD k pr0).key m r b=N at *;generalize (l.getD k pr0).m=A at *;generalize (l.getD k pr0).r=d at *;generalize (l.getD k pr0).b=z at *;generalize (l.getD k pr0).t=M at *;have C:=Blk.new wr #[zI A,zI d,zI z,zI M] 87;have Y:=C.cell 0;have Z:=C.cell 1;have n2:=C.cell 2;have g:Hid (Bo w (wr.alloc (.cells #[zI A,zI d,zI z,zI M] 87)) (some ⟨O,H,none⟩) n cap l):=B.o.alloc _;clear C;by_cases p:A=m
   ·have P:(A==m)=true:=by simp[p]
    by_cases s:d=r
    ·have Q:(d==r)=true:=by simp[s]
     by_cases u:z=b
     ·have R:(z==b)=true:=by simp[u]
      have f:Hid (At l m r b k):=F.o (c.o.2 ⟨p,s,u⟩);clear p s u;go_wp2_with fail;go_ret;exact⟨g.o.bel,.inl ⟨k,f.o,rfl⟩⟩
     ·have R:(z==b)=false:=by simp[u]
      have f:Hid (∀i,i<k+1→¬ (l.getD i pr0).key m r b):=q.o λh=>u (c.o.1 h).2.2;clear p s u;go_wp2_with fail;go_roundw
      case rel=>exact⟨k+1,by omega,by go_num,f,g.o⟩
      case measure=>simp[intOf];omega
    ·have Q:(d==r)=false:=by simp[s]
     have f:Hid (∀i,i<k+1→¬ (l.getD i pr0).key m r b):=q.o λh=>s (c.o.1 h).2.1;clear p s;go_wp2_with fail;go_roundw
     case rel=>exact⟨k+1,by omega,by go_num,f,g.o⟩
     case measure=>simp[intOf];omega
   ·have P:(A==m)=false:=by simp[p]
    have f:Hid (∀i,i<k+1→¬ (l.getD i pr0).key m r b):=q.o λh=>p (c.o.1 h).1;clear p;go_wp2_with fail;go_roundw
    case rel=>exact⟨k+1,by omega,by go_num,f,g.o⟩
    case measure=>simp[intOf];omega
  ·obtain rfl:n=k:=by omega
   have f:Hid (No l m r b):=λj L=>D.o j (by rw[I.o] at L;exact L);go_wp2_with fail;go_ret;exact⟨B.o.bel,.inr ⟨f.o,rfl⟩⟩
end ora
section
open Go.RowKit
theorem wp_letS{P:Program}{ops:Array Oper}{rest:List Oper}{o:Oper}{a:Act}{w:World}{Q:Exit→Act→World→Prop}(hgd:o.guard=none)(ty:TypeId)(x y:Operand)(ho:o.op=.store ty x y)
  (g off:Nat) (hx:a.eval x=.pointer (some ⟨g,off,none⟩)) (p:Option Addr) (n c:Nat) (hy:a.eval y=.slice p n c) (hi:(P.info? ty).map (·.size)=some 1)
  (cs:Array Value) (t:TypeId) (hB:Blk w g cs t) (hin:off<cs.size)
  (h:∀W,Upd w W g (cs.setIfInBounds off (.slice p n c)) t→wpList P ops Q rest (a.put o.dst undef) W):wpList P ops Q (o::rest) a w:=
 wp_let hgd ty x y ho g off hx _ hy #[.slice p n c] rfl hi (by simp[Value.oneCell']) cs t hB (by simp;omega) _ rfl h
end
section
open Go.RowKit
theorem zm {P : Program} {ops : Array Oper} {rest : List Oper} {o : Oper} {a : Act} {w : World} {Q : Exit → Act → World → Prop} {ty : TypeId} {x y : Operand} {g off : Nat} {p : Option Addr} {n c : Nat} {cs : Array Value} {t : TypeId}
 (h : ∀ W, Upd w W g (cs.setIfInBounds off (.slice p n c)) t → wpList P ops Q rest (a.put o.dst undef) W) (hgd : o.guard = none := by exact rfl) (ho : o.op = .store ty x y := by exact rfl)
 (hx : a.eval x = .pointer (some ⟨g, off, none⟩) := by exact rfl) (hy : a.eval y = .slice p n c := by exact rfl) (hi : (P.info? ty).map (·.size) = some 1 := by kernel_rfl)
 (hB : Hid (Blk w g cs t) := by assumption) (hin : off < cs.size := by simp) : wpList P ops Q (o :: rest) a w := wp_letS hgd ty x y ho g off hx p n c hy hi cs t hB.out hin h
end
namespace acc
open tar (Du du0 Came RowD Ld PairT)
open Go.RowKit
theorem ropen(m:Int)(w:World):Calls Tryz.prog 84 #[zI m] w λe w'=>APost w (OpenIs m) e w':=by
 have b:Hid (∀W,zC 47 #[zI m,zI 0,zI 49] W λe w'=>e=.returned (.bool (decide (0≤m∧m≤49)))∧w'=W):=λW=>cal.cin m 0 49 W;have j:=zye w #[zI 0,zI 0,zI 0,zI 0,zI 0,zI 0,zS] 55;have h:Hid (zB w (w.alloc (.cells #[zI 0,zI 0,zI 0,zI 0,zI 0,zI 0,zS] 55))):=(Below.refl w.heap.size w).alloc (by simp) _;by_cases g:0≤m∧m≤49
 ·rw[decide_eq_true g] at b;have i:=zh g;clear g;go_enter Tryz.func84,Tryz.ntmps84;go_wp2_with fail;refine(b.o _).mono ?_;rintro e l ⟨rfl,f⟩;subst f;go_wp2_with refine zs ?_;intro k d;have a:=zyb d;have c:=zk d h;clear d;go_wp2_with fail;exact zr (.tuple #[.agg #[zI m,zI 0,zI 1,zI 0,zI 0,zI (-1),zS],zI 0]) (by simp[results,Tryz.results84,zy0 a,zy1 a,zy2 a,zy3 a,zy4 a,zy5 a,zy6 a,go_sem]) ⟨⟨m,0,1,0,0,-1,[]⟩,none,0,0,_,rfl,.inl ⟨i.o,rfl,rfl⟩,deb.fresh_nil _ _,c.o⟩
 ·rw[decide_eq_false g] at b;have i:=zh g;clear g;go_enter Tryz.func84,Tryz.ntmps84;go_wp2_with fail;refine(b.o _).mono ?_;rintro e l ⟨rfl,f⟩;subst f;go_wp2_with refine zs ?_;intro k d;have a:=zyb d;have c:=zk d h;clear d;go_wp2_with fail;exact zr (.tuple #[.agg #[zI 0,zI 0,zI 0,zI 0,zI 0,zI 0,zS],zI 2]) (by simp[results,Tryz.results84,scl7 a,go_sem]) ⟨ac0,none,0,0,_,rfl,.inr ⟨i.o,rfl,rfl⟩,deb.fresh_nil _ _,c.o⟩
end acc
namespace book
open Go.RowKit
open Go.ChangeMaps (setBlock heap_setBlock_same heap_setBlock_other)
def entI(m:Int)(i:Nat):MapEntry:={ key:=zI m,val:=zI (i:Int),born:=i }
def entsI:List Int→Nat→List MapEntry
 |[],_=>[]
 |p::l,i=>entI p i::entsI l (i+1)
theorem entsI_app(l:List Int)(p:Int)(i:Nat):entsI (l++[p]) i=entsI l i++[entI p (i+l.length)]:=by
 induction l generalizing i with
 |nil=>rfl
 |cons x l ih=>simp only[List.cons_append,entsI,ih,List.length_cons];rw[show i+1+l.length=i+(l.length+1) by omega]
def MpI(w:World)(B:Nat)(l:List Int):Prop:=w.heap[B]?=some (.map (entsI l 0).toArray l.length)
variable{l:List Int}{bk:List Cm}{B:Nat}{w:World}
theorem MpI.lt(h:MpI w B l):B<w.heap.size:=by
 unfold MpI at h;by_cases a:B<w.heap.size
 ·exact a
 ·rw[Array.getElem?_eq_none (by omega)] at h;cases h
theorem MpI.below{w w':World}(h:MpI w B l)(hb:zB w w'):MpI w' B l:=by
 have a:=h.lt;unfold MpI at *;rw[hb.block B a];exact h
theorem MpI.upd{w W:World}{B g:Nat}{cs:Array Value}{t:TypeId}(h:MpI w B l)(hU:Upd w W g cs t)(hne:B≠g):MpI W B l:=by
 unfold MpI at *;rw[hU.oth B hne];exact h
theorem MpI.new(w:World):MpI (w.alloc (.map #[] 0)) w.heap.size []:=by
 show (w.heap.push _)[w.heap.size]?=_;rw[Array.getElem?_push_size];rfl
def firstI:List Int→Int→Option Nat
 |[],_=>none
 |m::l,x=>if x=m then some 0 else (firstI l x).map (·+1)
theorem findingI(x:Int):∀(l:List Int)(i j:Nat),Instr.findNow (.int .i64) (zI x) (entsI l i) j=some ((firstI l x).map λk=>(j+k,Value.int .i64 ((i+k:Nat):Int)))
 |[],i,j=>rfl
 |m::l,i,j=>by
  have ih:=findingI x l (i+1) (j+1);unfold firstI;by_cases h:x=m
  ·subst h;simp[entsI,entI,Instr.findNow,Instr.sameNow]
  ·have a:(x==m)=false:=by simpa using h
   rw[if_neg h];simp only[entsI,entI,Instr.findNow,Instr.sameNow,if_true,a];rw[ih];cases firstI l x with
   |none=>rfl
   |some k=>simp[show j+1+k=j+(k+1) by omega,show i+1+k=i+(k+1) by omega];omega
theorem zintI(w:World):(zeroValue 3).run Tryz.prog w=.ok (zI 0) w:=by kernel_rfl
theorem chkI(em:Bool)(x:Int)(w:World):(Instr.checkKey em 10000 3 (zI x)).run Tryz.prog w=.ok () w:=by kernel_rfl
theorem keyI(x:Int)(l:List Int)(w:World):(Instr.findKey 3 (zI x) (entsI l 0)).run Tryz.prog w=.ok ((firstI l x).map λk=>(k,Value.int .i64 (k:Int))) w:=by
 have h:=findingI x l 0 0;simp only[Nat.zero_add] at h;simp[Instr.findKey,run_underlying Tryz.underlying3,Sem.run_bind,h]
theorem lookI_run(h:MpI w B l)(x:Int):
  (Instr.lookup 168 (.map (some B)) (zI x) true).run Tryz.prog w=.ok (.tuple #[zI (((firstI l x).getD 0:Nat):Int),.bool (firstI l x).isSome]) w:=by
 have hf:=keyI x l w;cases hl:firstI l x with
 |none=>rw[hl] at hf;simp[Instr.lookup,run_underlying Tryz.underlying168,MapKept.run_getObj_map h,chkI,hf,zintI,Result.andThen,Sem.run_bind]
 |some k=>rw[hl] at hf;simp[Instr.lookup,run_underlying Tryz.underlying168,MapKept.run_getObj_map h,chkI,hf,Result.andThen,Sem.run_bind]
theorem updI_run(h:MpI w B l)(x:Int)(hn:firstI l x=none):
  ∃W,(Instr.mapUpdate 168 (.map (some B)) (zI x) (zI (l.length:Int))).run Tryz.prog w=.ok () W∧MpI W B (l++[x])∧(∀G,G≠B→W.heap[G]?=w.heap[G]?)∧(∀B0 w0,B0≤B→Below B0 w0 w→Below B0 w0 W)∧W.heap.size=w.heap.size∧w.grownBy W (some B):=by
 have hf:=keyI x l w;rw[hn] at hf;refine⟨setBlock w B (.map ((entsI l 0).toArray.push ⟨zI x,zI (l.length:Int),l.length⟩) (l.length+1)),?_,?_,λG d=>heap_setBlock_other h _ d,λB0 w0 f a=>?_,by simp[setBlock],⟨rfl,rfl,rfl,by simp[setBlock],λk c b=>heap_setBlock_other h _ (λe=>b (by rw[e]))⟩⟩
 ·simp[Instr.mapUpdate,run_underlying Tryz.underlying168,MapKept.run_getObj_map h,chkI,hf,MapKept.run_setObj_map _ h,Result.andThen,setBlock,Sem.run_bind]
 ·unfold MpI;rw[heap_setBlock_same h,entsI_app,List.length_append];simp[entI]
 ·refine⟨a.os,a.tape,a.output,by simp[setBlock];exact a.size,λk c=>?_⟩;rw[heap_setBlock_other h _ (by omega)];exact a.block k c
theorem mkMapI(w:World):(Instr.makeMap 168 none).run Tryz.prog w=.ok (.map (some w.heap.size)) (w.alloc (.map #[] 0)):=by kernel_rfl
def mes(bk:List Cm):List Int:=bk.map λc=>c.a.me
theorem mes_len(bk:List Cm):(mes bk).length=bk.length:=by simp[mes]
theorem first_some{x:Int}{k:Nat}(h:firstI (mes bk) x=some k):FirstAt bk x k:=by
 induction bk generalizing k with
 |nil=>cases h
 |cons c bk ih=>
  unfold mes firstI at h;simp only[List.map_cons] at h;by_cases b:x=c.a.me
  ·rw[if_pos b] at h;cases h;exact⟨by simp,b.symm,λj d=>absurd d (Nat.not_lt_zero _)⟩
  ·rw[if_neg b] at h;cases hf:firstI (mes bk) x with
   |none=>rw[show firstI (List.map (λc=>c.a.me) bk) x=none from hf] at h;cases h
   |some m=>
    rw[show firstI (List.map (λc=>c.a.me) bk) x=some m from hf] at h;cases h;have:=ih hf
    exact ⟨by have:=this.1;simp;omega,this.2.1,fun j d=>by
     cases j with
     |zero=>exact λe=>b e.symm
     | succ j=>exact this.2.2 j (by have:j+1<m+1:=d;omega)⟩
theorem first_none{x:Int}(h:firstI (mes bk) x=none):NoneAt bk x:=by
 induction bk with
 |nil=>intro j b;cases b
 |cons c bk ih=>
  unfold mes firstI at h;simp only[List.map_cons] at h;by_cases d:x=c.a.me
  ·rw[if_pos d] at h;cases h
  ·rw[if_neg d] at h
   have hf:firstI (mes bk) x=none:=by
    cases hf:firstI (mes bk) x with
    |none=>rfl
    |some m=>rw[show firstI (List.map (λc=>c.a.me) bk) x=some m from hf] at h;cases h
   intro j b;cases j with
   |zero=>exact λe=>d e.symm
   |succ j=>exact ih hf j (by simpa using b)
theorem mes_set{k:Nat}{c:Cm}(h:c.a.me=(bk.getD k cm0).a.me):mes (bk.set k c)=mes bk:=by
 unfold mes;apply List.ext_getElem?;intro j;simp only[List.getElem?_map,List.getElem?_set];by_cases d:k=j
 ·subst d;rw[if_pos rfl];by_cases b:k<bk.length
  ·rw[if_pos b,List.getElem?_eq_getElem b];simp only[Option.map_some,h,List.getD,List.getElem?_eq_getElem b,Option.getD]
  ·rw[if_neg b,List.getElem?_eq_none (by omega)]
 ·rw[if_neg d]
end book
namespace acc
open tar (Du)
open Go.RowKit
def KcOpen:Prop:=∀(W:World)(m:Int),(Lit.int .i64 m).wf=true→zC 181 #[zI m] W λe w'=>APost W (OpenIs m) e w'
end acc
namespace words
open Go.RowKit
theorem eq1(d:Nat)(a a':Int)(w:World):(Op.equalIn (d+1) 83 (.int .u32 a) (.int .u32 a')).run Tryz.prog w=.ok (a==a') w:=by
 simp[Op.equalIn,run_underlying Tryz.underlying83,go_sem]
theorem part0(a b c:Int)(w:World):(part 83 #[.int .u32 a,.int .u32 b,.int .u32 c] 0).run Tryz.prog w=.ok (.int .u32 a) w:=by kernel_rfl
theorem part1(a b c:Int)(w:World):(part 83 #[.int .u32 a,.int .u32 b,.int .u32 c] 1).run Tryz.prog w=.ok (.int .u32 b) w:=by kernel_rfl
theorem part2(a b c:Int)(w:World):(part 83 #[.int .u32 a,.int .u32 b,.int .u32 c] 2).run Tryz.prog w=.ok (.int .u32 c) w:=by kernel_rfl
theorem eq3(a b c a' b' c':Int)(w:World):
  (Op.equalIn 10000 135 (.agg #[.int .u32 a,.int .u32 b,.int .u32 c]) (.agg #[.int .u32 a',.int .u32 b',.int .u32 c'])).run Tryz.prog w=.ok (a==a'&&(b==b'&&c==c')) w:=by
 obtain⟨i0,hi⟩:∃i,Tryz.prog.info? 83=some i:=⟨_,rfl⟩
 rw[show (10000:Nat)=9999+1 from rfl,run_equalIn_array (w:=w) 9999 _ _ Tryz.underlying135 hi,cells_word,show List.range 3=[0,1,2] from rfl];simp only[Op.eqItems,Sem.run_bind,Nat.mul_one,part0,Result.andThen_ok,show (9999:Nat)=9998+1 from rfl,eq1];by_cases d:a=a'
 ·by_cases e:b=b'
  ·by_cases f:c=c'
   ·simp[part1,part2,Sem.run_bind,eq1,d,e,f]
   ·simp[part1,part2,Sem.run_bind,eq1,d,e,f]
  ·simp[part1,Sem.run_bind,eq1,d,e]
 ·simp[d]
theorem eq3_same(x:W3)(w:World):(Op.equalIn 10000 135 (wv x) (wv x)).run Tryz.prog w=.ok true w:=by
 rw[eq3];simp
theorem eq3_other{x y:W3}(h:x≠y)(w:World):(Op.equalIn 10000 135 (wv x) (wv y)).run Tryz.prog w=.ok false w:=by
 rw[eq3];have:=agg_ne h
 congr 1
 simp;intro a b c;exact this ⟨a,b,c⟩
def Ty(w:World)(b:Nat):Prop:=∃cs fr,w.heap[b]?=some (.cells cs 83 fr)
theorem Ty.lt{w:World}{b:Nat}(h:Ty w b):b<w.heap.size:=by
 obtain⟨cs,c,h⟩:=h;by_cases a:b<w.heap.size
 ·exact a
 ·rw[Array.getElem?_eq_none (by omega)] at h;cases h
variable{a:Option Addr}{w w':World}{l:List Nat}{n cap:Nat}
theorem Ty.same{b:Nat}(h:Ty w b)(e:w'.heap[b]?=w.heap[b]?):Ty w' b:=by
 obtain⟨cs,a,h⟩:=h;exact⟨cs,a,e.trans h⟩
theorem ty_new(w:World)(cs:Array Value):Ty (w.alloc (.cells cs 83)) w.heap.size:=by
 refine⟨cs,(0,0),?_⟩;show (w.heap.push _)[w.heap.size]?=_;rw[Array.getElem?_push_size]
structure Ru (w:World) (a:Option Addr) (n cap:Nat) (l:List Nat):Prop where
 len:l.length=n
 lt:∀x∈l,x<4294967296
 nil:a=none→cap=0
 room:n≤cap
 cell:n=0∨∃b off,a=some ⟨b,off,none⟩∧∀i,i<n→w.cell? ⟨b,off+i,none⟩=some (.int .u32 ((l.getD i 0:Nat):Int))
 typ:∀b off s,a=some ⟨b,off,s⟩→n≠0→Ty w b
theorem Ru.below(h:Ru w a n cap l)(hb:zB w w'):Ru w' a n cap l:=by
 refine⟨h.len,h.lt,h.nil,h.room,?_,λb c s e f=>(h.typ b c s e f).same (hb.block b (h.typ b c s e f).lt)⟩;rcases h.cell with g|⟨b,c,rfl,j⟩
 ·exact .inl g
 ·refine .inr ⟨b,c,rfl,λi k=>?_⟩;have d:=j i k;rw[hb.cell (p:=⟨b,c+i,none⟩) (World.block_lt_of_cell? w _ d)];exact d
theorem Ru.at{w:World}(h:Ru w a n cap l){i:Nat}(hi:i<n):∃b off,a=some ⟨b,off,none⟩∧w.cell? ⟨b,off+i,none⟩=some (.int .u32 ((l.getD i 0:Nat):Int)):=by
 rcases h.cell with d|⟨b,off,rfl,c⟩
 ·omega
 ·exact⟨b,off,rfl,c i hi⟩
theorem Ru.word{w:World}(h:Ru w a n cap l)(i:Nat):l.getD i 0<4294967296:=by
 by_cases b:i<l.length
 ·exact h.lt _ (by simp[List.getD,List.getElem?_eq_getElem b])
 ·simp[List.getD,List.getElem?_eq_none (show l.length≤i by omega)]
def Gives(w:World)(m:Nat)(e:Ending)(w':World):Prop:=∃a n cap,e=.returned (.slice a n cap)∧Ru w' a n cap (dig m)∧zB w w'
theorem Gives.mk{m n cap:Nat}(h1:Ru w' a n cap (dig m))(h2:zB w w'):Gives w m (.returned (.slice a n cap)) w':=⟨a,n,cap,rfl,h1,h2⟩
theorem slice_top(a:Option Addr)(n cap k:Nat)(w:World)(hk:k≤n)(hn:n≤cap)(ha:a=none→cap=0):(Instr.slice 25 (.slice a n cap) none (some (zI (k:Int))) none).run Tryz.prog w=.ok (.slice a k cap) w:=by
 have b:k≤cap:=by omega
 cases a with
 |none=>
  have:=ha rfl;have:k=0:=by omega
  subst_vars
  simp[Instr.slice,Instr.sliceBounds,Instr.sliceBound,asIntOf,run_underlying Tryz.underlying25,go_sem]
 |some x=>simp[Instr.slice,Instr.sliceBounds,Instr.sliceBound,asIntOf,run_underlying Tryz.underlying25,b,go_sem]
theorem trim_any(a:Option Addr)(n cap:Nat)(l:List Nat)(w:World)(h:Ru w a n cap l)(hn:n≤1000):
  Calls Tryz.prog 176 #[.slice a n cap] w λe w'=>Gives w (nv l) e w':=by
 have d:Hid (Ru w a n cap l):=h;clear h;go_enter Tryz.func176,Tryz.ntmps176;go_wp2_with fail;go_loop [3] (λv=>∃k:Nat,k≤n∧v=zI k∧∀i,k≤i→i<n→l.getD i 0=0) (λv=>(intOf v).toNat)
 case atStart=>exact⟨n,zc,rfl,λi q m=>by omega⟩
 case round=>
  obtain⟨k,t,rfl,D⟩:=hrel;have B:Hid (∀i,k≤i→i<n→l.getD i 0=0):=D;clear D
  have j:(k=0∨l.getD (k-1) 0≠0)→Gives w (nv l) (.returned (.slice a k cap)) w:=λI=>by
   have e:=trim_dig l k d.o.lt (by rw[d.o.len];exact t) (λi q m=>B.o i q (by rw[d.o.len] at m;exact m)) I;refine Gives.mk ?_ zb;rw[← e];refine⟨by rw[List.length_take,d.o.len];omega,λx K=>d.o.lt x (List.mem_of_mem_take K),d.o.nil,Nat.le_trans t d.o.room,?_,λb f s e hn=>d.o.typ b f s e (by omega)⟩;rcases d.o.cell with L|⟨b,f,rfl,p⟩
   ·exact .inl (by omega)
   ·refine .inr ⟨b,f,rfl,λi J=>?_⟩;rw[p i (by omega)]
    congr 3
    simp[List.getD,J]
  have A:Hid ((k=0∨l.getD (k-1) 0≠0)→Gives w (nv l) (.returned (.slice a k cap)) w):=j;have z:=slice_top a n cap k w t d.o.room d.o.nil;clear j;by_cases u:k=0
  ·subst u;go_wp2_with fail;go_ret;exact A.o (.inl (by trivial))
  ·obtain⟨b,f,rfl,p⟩:=d.o.at (i:=k-1) (by omega);have G:(k:Int)-1=((k-1:Nat):Int):=by omega
   have kp:(0:Int)<(k:Int):=by omega
   by_cases c:l.getD (k-1) 0=0
   ·rw[c] at p
    have F:Hid (∀i,k-1≤i→i<n→l.getD i 0=0):=λi q m=>by
     by_cases e:i=k-1
     ·rw[e];exact c
     ·exact B.o i (by omega) m
    clear z c;have C:k-1<n:=by omega
    generalize r:k-1=g at *;go_wp2_with fail;go_round
    case rel=>exact⟨g,by omega,by go_num,F.o⟩
    case measure=>simp[intOf];omega
   ·have H:((((l.getD (k-1) 0:Nat):Int))==0)=false:=beq_eq_false_iff_ne.2 (by omega);have E:Hid (l.getD (k-1) 0≠0):=c;clear c;have C:k-1<n:=by omega
    generalize ((l.getD (k-1) 0:Nat):Int)=y at H p;generalize r:k-1=g at p G C;go_wp2_with fail;go_ret;exact A.o (.inr E.o)
theorem ru_two(w:World)(x y:Nat)(hx:x<4294967296)(hy:y<4294967296):Ru (w.alloc (.cells #[.int .u32 (x:Int),.int .u32 (y:Int)] 83)) (some ⟨w.heap.size,0,none⟩) 2 2 [x,y]:=by
 refine⟨rfl,?_,(λh=>by cases h),zc,.inr ⟨w.heap.size,0,rfl,λi c=>?_⟩,λb a s e _=>by obtain⟨rfl,-,-⟩:=(by simpa using e:w.heap.size=b∧0=a∧none=s);exact ty_new _ _⟩
 ·intro z d;simp at d;omega
 ·match i,c with
  |0,_=>simp
  |1,_=>simp
theorem words_any(x:Nat)(w:World)(hx:x<18446744073709551616):
  Calls Tryz.prog 175 #[.int .u64 (x:Int)] w λe w'=>Gives w x e w':=by
 have f:x%4294967296<4294967296:=Nat.mod_lt _ (by decide);have k:x/4294967296<4294967296:=by omega
 have b:=ru_two w (x%4294967296) (x/4294967296) f k;have j:Hid (nv [x%4294967296,x/4294967296]=x):=(by simp only[nv];omega:nv [x%4294967296,x/4294967296]=x)
 have l:((x:Nat):Int)%4294967296=((x%4294967296:Nat):Int):=by omega
 have m:((x:Nat):Int)/4294967296=((x/4294967296:Nat):Int):=by omega
 have i:Hid (Ru (w.alloc (.cells #[.int .u32 ((x%4294967296:Nat):Int),.int .u32 ((x/4294967296:Nat):Int)] 83)) (some ⟨w.heap.size,0,none⟩) 2 2 [x%4294967296,x/4294967296]):=b;have d:Hid (zB w (w.alloc (.cells #[.int .u32 ((x%4294967296:Nat):Int),.int .u32 ((x/4294967296:Nat):Int)] 83))):=(Below.refl _ w).alloc zc _;clear b f;generalize x%4294967296=q at *;generalize x/4294967296=p at *;go_enter Tryz.func175,Tryz.ntmps175;go_wp2_with fail;refine(trim_any _ _ _ _ _ i.o (by omega)).mono ?_;rintro e w' ⟨a,n,c,rfl,b,g⟩;rw[j.o] at b;have h:Hid (Gives w x (.returned (.slice a n c)) w'):=Gives.mk b (d.o.trans (g.mono d.o.size));clear b g;go_wp2_with fail;go_ret;exact h.o
end words
namespace rct
open Go.RowKit
theorem met_tail{P:Program}{x:String × DataW Unit}{rest:List (String × DataW Unit)}{W:World}(h:laidMet P (x::rest) W):laidMet P rest W:=by
 obtain⟨o,l,i,e⟩:=h;obtain⟨m,r,cs,c,p,q,f,k,d,n,j,rfl⟩:=l;exact⟨q,j,(List.nodup_append.1 i).2.1,λb a g=>e b a (List.mem_append_right _ g)⟩
end rct
end Go.Proofs.YtoepgdhiepedeaaGreatDoor
