import Derived.Test.YtnpblpbohcegoaaGreatDoorVBTed5
import Derived.Test.YtnpblpbohcegoaaGreatDoorVBTed7
set_option linter.unusedVariables false
set_option linter.unusedSimpArgs false
set_option maxHeartbeats 4000000
set_option maxRecDepth 100000
namespace Go.Proofs.YtnpblpbohcegoaaGreatDoor
namespace acc
open tar (Du du0 Came)
open Go.RowKit
def Ac.cs (x:Ac) (p:Option Addr) (len cap:Nat):Array Value:=#[zI x.me,zI x.rv,zI x.nx,zI x.mo,zI x.bo,zI x.fr,.slice p len cap]
def Ac.v (x:Ac) (p:Option Addr) (len cap:Nat):Value:= .agg (x.cs p len cap)
def Tm.v (t:Tm) (p:Option Addr) (len cap:Nat):Value:= .agg #[.slice p len cap,zI t.ff,zI t.fb,zI t.db,zI t.al]
def Bi.v (b:Bi):Value:= .agg #[zI b.id,zI b.te,zI b.de,zI b.fe,zI b.pr,zI b.ch,zI b.un]
def wf6 (x:Ac):Prop:=(Lit.int .i64 x.me).wf=true∧(Lit.int .i64 x.rv).wf=true∧(Lit.int .i64 x.nx).wf=true∧(Lit.int .i64 x.mo).wf=true∧(Lit.int .i64 x.bo).wf=true∧(Lit.int .i64 x.fr).wf=true
def wf4 (t:Tm):Prop:=(Lit.int .i64 t.ff).wf=true∧(Lit.int .i64 t.fb).wf=true∧(Lit.int .i64 t.db).wf=true∧(Lit.int .i64 t.al).wf=true
structure ACame (w:World) (x:Ac) (p:Option Addr) (len cap:Nat):Prop where
 ds:Came w p len cap x.ds
 wf:wf6 x
structure TCame (w:World) (t:Tm) (p:Option Addr) (len cap:Nat):Prop where
 ts:Came w p len cap t.ts
 wf:wf4 t
theorem ACame.below {w w':World} {x:Ac} {p:Option Addr} {len cap:Nat} (h:ACame w x p len cap) (hb:Below w.heap.size w w'):ACame w' x p len cap:=⟨h.ds.below hb,h.wf⟩
theorem TCame.below {w w':World} {t:Tm} {p:Option Addr} {len cap:Nat} (h:TCame w t p len cap) (hb:Below w.heap.size w w'):TCame w' t p len cap:=⟨h.ts.below hb,h.wf⟩
def APost (w:World) (R:Ac→Int→Prop) (e:Ending) (w':World):Prop:=∃ b p len cap f,e = .returned (.tuple #[Ac.v b p len cap,zI f])∧R b f∧deb.Fresh w' w.heap.size p len cap b.ds∧Below w.heap.size w w'
def BPost (w:World) (R:Ac→Bi→Int→Prop) (e:Ending) (w':World):Prop:=∃ b l p len cap f,e = .returned (.tuple #[Ac.v b p len cap,Bi.v l,zI f])∧R b l f∧deb.Fresh w' w.heap.size p len cap b.ds∧Below w.heap.size w w'
end acc
namespace rcp
structure Rc where
 me:Int
 id:Int
 te:Int
 de:Int
 fe:Int
 pr:Int
 ch:Int
 un:Int
 tk:List UInt8
def rc0:Rc:=⟨0,0,0,0,0,0,0,0,[]⟩
end rcp
namespace check
open Go.RowKit
def pick (n many:Int):Int:=(if n<0 then -(n+1) else n) % many
theorem pick_nonneg (n many:Int) (h:0<many):0≤pick n many:=Int.emod_nonneg _ (by omega)
theorem pick_lt (n many:Int) (h:0<many):pick n many<many:=Int.emod_lt_of_pos _ h
theorem picked_any (n many:Int) (w:World) (hn:(Lit.int .i64 n).wf=true) (hm:0<many) (hm':many≤4000000000000) :
  Calls Tryz.prog 18 #[zI n,zI many] w fun e w'=>e = .returned (zI (pick n many))∧w'=w:=by
 have hb:-9223372036854775808≤n∧n≤9223372036854775807:=bounds_i64 hn;obtain ⟨hb1,hb2⟩:=hb;by_cases h:n<0
 ·have e0:pick n many=(-(n+1)) % many:=by unfold pick;rw [if_pos h]
  rw [e0];go_enter Tryz.func18,Tryz.ntmps18;go_wp2;go_ret;exact ⟨by rw [← Int.neg_tmod,Int.tmod_eq_emod_of_nonneg (by omega)];rfl,rfl⟩
 ·have e0:pick n many=n % many:=by unfold pick;rw [if_neg h]
  rw [e0];go_enter Tryz.func18,Tryz.ntmps18;go_wp2;go_ret;exact ⟨rfl,rfl⟩
end check
section
open Go.RowKit
theorem wp_letS {P:Program} {ops:Array Oper} {rest:List Oper} {o:Oper} {a:Act} {w:World} {Q:Exit→Act→World→Prop} (hgd:o.guard=none) (ty:TypeId) (x y:Operand) (ho:o.op = .store ty x y)
  (g off:Nat) (hx:a.eval x = .pointer (some ⟨g,off,none⟩)) (p:Option Addr) (n c:Nat) (hy:a.eval y = .slice p n c) (hi:(P.info? ty).map (·.size)=some 1)
  (cs:Array Value) (t:TypeId) (hB:Blk w g cs t) (hin:off<cs.size)
  (h:∀ W,Upd w W g (cs.setIfInBounds off (.slice p n c)) t→wpList P ops Q rest (a.put o.dst undef) W):wpList P ops Q (o :: rest) a w:=
 wp_let hgd ty x y ho g off hx _ hy #[.slice p n c] rfl hi (by simp [Value.oneCell']) cs t hB (by simp;omega) _ rfl h
end
namespace disk
open Go.RowKit cell
theorem rec_at {c:List Int} {p m x:Nat} (hm:(c.getD p 0).toNat=m) (hx:x<m):(recAt c p).getD x 0=c.getD (p+1+x) 0:=by
 unfold recAt;rw [hm];simp [List.getD,List.getElem?_drop,hx]
theorem rec_len {c:List Int} {p m:Nat} (hm:(c.getD p 0).toNat=m) (hf:p+m<c.length):(recAt c p).length=m:=by
 unfold recAt;rw [hm,List.length_take,List.length_drop];omega
end disk
namespace book
open Go.RowKit
open Go.ChangeMaps (setBlock heap_setBlock_same heap_setBlock_other)
def entI (m:Int) (i:Nat):MapEntry:={ key:=zI m,val:=zI (i:Int),born:=i }
def entsI:List Int→Nat→List MapEntry
 | [],_=>[]
 | p :: l,i=>entI p i :: entsI l (i+1)
theorem entsI_app (l:List Int) (p:Int) (i:Nat):entsI (l++[p]) i=entsI l i++[entI p (i+l.length)]:=by
 induction l generalizing i with
 | nil=>rfl
 | cons x l ih=>simp only [List.cons_append,entsI,ih,List.length_cons];rw [show i+1+l.length=i+(l.length+1) by omega]
def MpI (w:World) (B:Nat) (l:List Int):Prop:=w.heap[B]?=some (.map (entsI l 0).toArray l.length)
theorem MpI.lt {w:World} {B:Nat} {l:List Int} (h:MpI w B l):B<w.heap.size:=by
 unfold MpI at h;by_cases hh:B<w.heap.size
 ·exact hh
 ·rw [Array.getElem?_eq_none (by omega)] at h;cases h
theorem MpI.below {w w':World} {B:Nat} {l:List Int} (h:MpI w B l) (hb:Below w.heap.size w w'):MpI w' B l:=by
 have hl:=h.lt;unfold MpI at *;rw [hb.block B hl];exact h
theorem MpI.upd {w W:World} {B g:Nat} {cs:Array Value} {t:TypeId} {l:List Int} (h:MpI w B l) (hU:Upd w W g cs t) (hne:B≠g):MpI W B l:=by
 unfold MpI at *;rw [hU.oth B hne];exact h
theorem MpI.new (w:World):MpI (w.alloc (.map #[] 0)) w.heap.size []:=by
 show (w.heap.push _)[w.heap.size]?=_;rw [Array.getElem?_push_size];rfl
def firstI:List Int→Int→Option Nat
 | [],_=>none
 | m :: l,x=>if x=m then some 0 else (firstI l x).map (·+1)
theorem findingI (x:Int):∀ (l:List Int) (i j:Nat),Instr.findNow (.int .i64) (zI x) (entsI l i) j=some ((firstI l x).map fun k=>(j+k,Value.int .i64 ((i+k:Nat):Int)))
 | [],i,j=>rfl
 | m :: l,i,j=>by
  have ih:=findingI x l (i+1) (j+1);unfold firstI;by_cases h:x=m
  ·subst h;simp [entsI,entI,Instr.findNow,Instr.sameNow]
  ·have hb:(x == m)=false:=by simpa using h
   rw [if_neg h];simp only [entsI,entI,Instr.findNow,Instr.sameNow,if_true,hb];rw [ih];cases firstI l x with
   | none=>rfl
   | some k=>simp [show j+1+k=j+(k+1) by omega,show i+1+k=i+(k+1) by omega];omega
theorem zintI (w:World):(zeroValue 3).run Tryz.prog w = .ok (zI 0) w:=by kernel_rfl
theorem chkI (em:Bool) (x:Int) (w:World):(Instr.checkKey em 10000 3 (zI x)).run Tryz.prog w = .ok () w:=by kernel_rfl
theorem keyI (x:Int) (l:List Int) (w:World):(Instr.findKey 3 (zI x) (entsI l 0)).run Tryz.prog w = .ok ((firstI l x).map fun k=>(k,Value.int .i64 (k:Int))) w:=by
 have h:=findingI x l 0 0;simp only [Nat.zero_add] at h;simp [Instr.findKey,run_underlying Tryz.underlying3,Sem.run_bind,h]
theorem lookI_run {w:World} {B:Nat} {l:List Int} (h:MpI w B l) (x:Int) :
  (Instr.lookup 111 (.map (some B)) (zI x) true).run Tryz.prog w = .ok (.tuple #[zI (((firstI l x).getD 0:Nat):Int),.bool (firstI l x).isSome]) w:=by
 have hf:=keyI x l w;cases hl:firstI l x with
 | none=>rw [hl] at hf;simp [Instr.lookup,run_underlying Tryz.underlying111,MapKept.run_getObj_map h,chkI,hf,zintI,Result.andThen,Sem.run_bind]
 | some k=>rw [hl] at hf;simp [Instr.lookup,run_underlying Tryz.underlying111,MapKept.run_getObj_map h,chkI,hf,Result.andThen,Sem.run_bind]
theorem updI_run {w:World} {B:Nat} {l:List Int} (h:MpI w B l) (x:Int) (hn:firstI l x=none) :
  ∃ W,(Instr.mapUpdate 111 (.map (some B)) (zI x) (zI (l.length:Int))).run Tryz.prog w = .ok () W∧MpI W B (l++[x])∧(∀ G,G≠B→W.heap[G]?=w.heap[G]?)∧(∀ B0 w0,B0≤B→Below B0 w0 w→Below B0 w0 W)∧W.heap.size=w.heap.size∧w.grownBy W (some B):=by
 have hf:=keyI x l w;rw [hn] at hf;refine ⟨setBlock w B (.map ((entsI l 0).toArray.push ⟨zI x,zI (l.length:Int),l.length⟩) (l.length+1)),?_,?_,fun G hG=>heap_setBlock_other h _ hG,fun B0 w0 hB hb=>?_,by simp [setBlock],⟨rfl,rfl,rfl,by simp [setBlock],fun k hk hne=>heap_setBlock_other h _ (fun e=>hne (by rw [e]))⟩⟩
 ·simp [Instr.mapUpdate,run_underlying Tryz.underlying111,MapKept.run_getObj_map h,chkI,hf,MapKept.run_setObj_map _ h,Result.andThen,setBlock,Sem.run_bind]
 ·unfold MpI;rw [heap_setBlock_same h,entsI_app,List.length_append];simp [entI]
 ·refine ⟨hb.os,hb.tape,hb.output,by simp [setBlock];exact hb.size,fun k hk=>?_⟩;rw [heap_setBlock_other h _ (by omega)];exact hb.block k hk
theorem mkMapI (w:World):(Instr.makeMap 111 none).run Tryz.prog w = .ok (.map (some w.heap.size)) (w.alloc (.map #[] 0)):=by kernel_rfl
def mes (bk:List Cm):List Int:=bk.map fun c=>c.a.me
theorem mes_len (bk:List Cm):(mes bk).length=bk.length:=by simp [mes]
theorem first_some {bk:List Cm} {x:Int} {k:Nat} (h:firstI (mes bk) x=some k):FirstAt bk x k:=by
 induction bk generalizing k with
 | nil=>cases h
 | cons c bk ih=>
  unfold mes firstI at h;simp only [List.map_cons] at h;by_cases hx:x=c.a.me
  ·rw [if_pos hx] at h;cases h;exact ⟨by simp,hx.symm,fun j hj=>absurd hj (Nat.not_lt_zero _)⟩
  ·rw [if_neg hx] at h;cases hf:firstI (mes bk) x with
   | none=>rw [show firstI (List.map (fun c=>c.a.me) bk) x=none from hf] at h;cases h
   | some m=>
    rw [show firstI (List.map (fun c=>c.a.me) bk) x=some m from hf] at h;cases h;have:=ih hf
    exact ⟨by have:=this.1;simp;omega,this.2.1,fun j hj=>by
     cases j with
     | zero=>exact fun e=>hx e.symm
     | succ j=>exact this.2.2 j (by have:j+1<m+1:=hj;omega)⟩
theorem first_none {bk:List Cm} {x:Int} (h:firstI (mes bk) x=none):NoneAt bk x:=by
 induction bk with
 | nil=>intro j hj;cases hj
 | cons c bk ih=>
  unfold mes firstI at h;simp only [List.map_cons] at h;by_cases hx:x=c.a.me
  ·rw [if_pos hx] at h;cases h
  ·rw [if_neg hx] at h
   have hf:firstI (mes bk) x=none:=by
    cases hf:firstI (mes bk) x with
    | none=>rfl
    | some m=>rw [show firstI (List.map (fun c=>c.a.me) bk) x=some m from hf] at h;cases h
   intro j hj;cases j with
   | zero=>exact fun e=>hx e.symm
   | succ j=>exact ih hf j (by simpa using hj)
theorem mes_set {bk:List Cm} {k:Nat} {c:Cm} (h:c.a.me=(bk.getD k cm0).a.me):mes (bk.set k c)=mes bk:=by
 unfold mes;apply List.ext_getElem?;intro j;simp only [List.getElem?_map,List.getElem?_set];by_cases hj:k=j
 ·subst hj;rw [if_pos rfl];by_cases hl:k<bk.length
  ·rw [if_pos hl,List.getElem?_eq_getElem hl];simp only [Option.map_some,h,List.getD,List.getElem?_eq_getElem hl,Option.getD]
  ·rw [if_neg hl,List.getElem?_eq_none (by omega)]
 ·rw [if_neg hj]
end book
namespace acc
open tar (Du du0 Came RowD Ld PairT)
open Go.RowKit
theorem awithin (lo hi n:Int) (w:World):Calls Tryz.prog 69 #[zI lo,zI hi,zI n] w fun e w'=>e = .returned (.bool (decide (lo≤n∧n≤hi)))∧w'=w:=by
 by_cases h1:lo≤n
 ·by_cases h2:n≤hi
  ·have h3:decide (lo≤n∧n≤hi)=true:=by simp;omega
   rw [h3];clear h3;go_enter Tryz.func69,Tryz.ntmps69;go_wp2;go_ret;exact ⟨rfl,rfl⟩
  ·have h3:decide (lo≤n∧n≤hi)=false:=by simp;omega
   have h4:decide (n≤hi)=false:=by simp;omega
   rw [h3];clear h3 h2;go_enter Tryz.func69,Tryz.ntmps69;go_wp2;go_ret;exact ⟨rfl,rfl⟩
 ·have h3:decide (lo≤n∧n≤hi)=false:=by simp;omega
  have h4:decide (lo≤n)=false:=by simp;omega
  rw [h3];clear h3 h1;go_enter Tryz.func69,Tryz.ntmps69;go_wp2;go_ret;exact ⟨rfl,rfl⟩
end acc
namespace deb
open tar (Du du0 Came RowD Ld ErrPost TwoPost PairT)
open Go.RowKit
theorem dwithin (lo hi n:Int) (w:World):Calls Tryz.prog 202 #[zI lo,zI hi,zI n] w fun e w'=>e = .returned (.bool (decide (lo≤n∧n≤hi)))∧w'=w:=by
 by_cases h1:lo≤n
 ·by_cases h2:n≤hi
  ·have h3:decide (lo≤n∧n≤hi)=true:=by simp;omega
   rw [h3];clear h3;go_enter Tryz.func202,Tryz.ntmps202;go_wp2;go_ret;exact ⟨rfl,rfl⟩
  ·have h3:decide (lo≤n∧n≤hi)=false:=by simp;omega
   have h4:decide (n≤hi)=false:=by simp;omega
   rw [h3];clear h3 h2;go_enter Tryz.func202,Tryz.ntmps202;go_wp2;go_ret;exact ⟨rfl,rfl⟩
 ·have h3:decide (lo≤n∧n≤hi)=false:=by simp;omega
  have h4:decide (lo≤n)=false:=by simp;omega
  rw [h3];clear h3 h1;go_enter Tryz.func202,Tryz.ntmps202;go_wp2;go_ret;exact ⟨rfl,rfl⟩
theorem pcheck (a:Option Addr) (n cap:Nat) (ls:List Du) (w:World) (hr:RowD w a n ls) (hn:n≤maxLen):Calls Tryz.prog 199 #[.slice a n cap] w fun e w'=>∃ f,e = .returned (zI f)∧FaultIs ls f∧Below w.heap.size w w':=by
 have hlen:=hr.1;have HIU:Hid (∀ x W,Calls Tryz.prog 202 #[zI 0,zI 1000000000,zI x] W fun e w'=>e = .returned (.bool (decide (0≤x∧x≤1000000000)))∧w'=W):=fun x W=>dwithin 0 1000000000 x W;have HIP:Hid (∀ x W,Calls Tryz.prog 202 #[zI 0,zI 10000,zI x] W fun e w'=>e = .returned (.bool (decide (0≤x∧x≤10000)))∧w'=W):=fun x W=>dwithin 0 10000 x W;have hnm:n≤9223372036854775807:=by unfold maxLen at hn;omega
 by_cases hs:n≤8
 ·have HS:Hid (ls.length≤8):=by show _≤_;rw [hlen];exact hs
  have hd8:decide (8<(n:Int))=false:=decide_eq_false (by omega);have HROW:Hid (RowD w a n ls):=hr;have HLEN:Hid (ls.length=n):=hlen;clear hr hn hlen;go_enter Tryz.func199,Tryz.ntmps199;go_wp2_with fail;go_loopw [10] (fun x wr=>∃ k:Nat,k≤n∧x=zI (k:Int)∧(∀ i,i<k→Ok1 (ls.getD i du0))∧Below w.heap.size w wr) (fun x _=>n - (intOf x).toNat)
  case atStart=>exact ⟨0,Nat.zero_le _,rfl,fun i hi=>absurd hi (Nat.not_lt_zero _),Below.refl _ _⟩
  case round=>
   obtain ⟨k,hk,rfl,hf,hb⟩:=hrel;have HF:Hid (∀ i,i<k→Ok1 (ls.getD i du0)):=hf;have HB:Hid (Below w.heap.size w wr):=hb;clear hf;by_cases hlt:k<n
   ·have hdl:decide ((k:Int)<(n:Int))=true:=by simp;omega
    obtain ⟨b,off,rfl,hbl,hc⟩:=HROW.o.at (by omega);have c0:wr.cell? ⟨b,off+k*2,none⟩=some (zI (ls.getD k du0).a):=(hb.cell (p:=⟨b,off+k*2,none⟩) hbl).trans (hc k hlt).1;have c1:wr.cell? ⟨b,off+k*2+1,none⟩=some (zI (ls.getD k du0).b):=(hb.cell (p:=⟨b,off+k*2+1,none⟩) hbl).trans (hc k hlt).2;have HBA:Hid (∀ o,Below w.heap.size w (wr.alloc o)):=fun o=>hb.alloc hb.size o;clear hb hc;have HU:=HIU.o (ls.getD k du0).a;have HP:=HIP.o (ls.getD k du0).b;by_cases hu:0≤(ls.getD k du0).a∧(ls.getD k du0).a≤1000000000
    ·rw [decide_eq_true hu] at HU;by_cases hp:0≤(ls.getD k du0).b∧(ls.getD k du0).b≤10000
     ·
      rw [decide_eq_true hp] at HP
      have HF2:Hid (∀ i,i<k+1→Ok1 (ls.getD i du0)):=fun i hi=>by
       by_cases e:i=k
       ·subst e;exact ⟨hu,hp⟩
       ·exact HF.o i (by omega)
      have HU2:Hid (∀ W,Calls Tryz.prog 202 #[zI 0,zI 1000000000,zI (ls.getD k du0).a] W fun e w'=>e = .returned (.bool true)∧w'=W):=HU;have HP2:Hid (∀ W,Calls Tryz.prog 202 #[zI 0,zI 10000,zI (ls.getD k du0).b] W fun e w'=>e = .returned (.bool true)∧w'=W):=HP;clear HU HP hu hp HF;generalize (ls.getD k du0).a=x at *;generalize (ls.getD k du0).b=y at *;go_wp2_with fail;refine (HU2.o _).mono ?_;rintro e w2 ⟨rfl,hw2⟩;subst w2;go_wp2_with fail;refine (HP2.o _).mono ?_;rintro e w2 ⟨rfl,hw2⟩;subst w2;go_wp2_with fail;go_roundw
      case rel=>exact ⟨k+1,by omega,by go_num,HF2.o,HBA.o _⟩
      case measure=>simp [intOf];omega
     ·
      rw [decide_eq_false hp] at HP;have HN:Hid (¬ DFits ls):=fun h=>hp (h k (by rw [HLEN.o];exact hlt)).2;have HU2:Hid (∀ W,Calls Tryz.prog 202 #[zI 0,zI 1000000000,zI (ls.getD k du0).a] W fun e w'=>e = .returned (.bool true)∧w'=W):=HU;have HP2:Hid (∀ W,Calls Tryz.prog 202 #[zI 0,zI 10000,zI (ls.getD k du0).b] W fun e w'=>e = .returned (.bool false)∧w'=W):=HP;clear HU HP hu hp HF;generalize (ls.getD k du0).a=x at *;generalize (ls.getD k du0).b=y at *;go_wp2_with fail;refine (HU2.o _).mono ?_;rintro e w2 ⟨rfl,hw2⟩;subst w2;go_wp2_with fail;refine (HP2.o _).mono ?_;rintro e w2 ⟨rfl,hw2⟩;subst w2;go_wp2_with fail;go_ret;exact ⟨_,rfl,.inr (.inl ⟨HS.o,HN.o,rfl⟩),HBA.o _⟩
    ·
     rw [decide_eq_false hu] at HU;have HN:Hid (¬ DFits ls):=fun h=>hu (h k (by rw [HLEN.o];exact hlt)).1;have HU2:Hid (∀ W,Calls Tryz.prog 202 #[zI 0,zI 1000000000,zI (ls.getD k du0).a] W fun e w'=>e = .returned (.bool false)∧w'=W):=HU;clear HU HP hu HF;generalize (ls.getD k du0).a=x at *;generalize (ls.getD k du0).b=y at *;go_wp2_with fail;refine (HU2.o _).mono ?_;rintro e w2 ⟨rfl,hw2⟩;subst w2;go_wp2_with fail;go_ret;exact ⟨_,rfl,.inr (.inl ⟨HS.o,HN.o,rfl⟩),HBA.o _⟩
   ·obtain rfl:k=n:=by omega
    have hdl:decide ((k:Int)<(k:Int))=false:=by simp
    have HFT:Hid (DFits ls):=fun i hi=>HF.o i (by rw [HLEN.o] at hi;exact hi);clear HF HIU HIP hb;go_wp2_with fail;go_ret;exact ⟨_,rfl,.inr (.inr ⟨⟨HS.o,HFT.o⟩,rfl⟩),HB.o⟩
 ·have HS:Hid (¬ ls.length≤8):=by show ¬ _≤_;rw [hlen];exact hs
  have hd8:decide (8<(n:Int))=true:=decide_eq_true (by omega);clear hs hr hlen hn;go_enter Tryz.func199,Tryz.ntmps199;go_wp2_with fail;go_ret;exact ⟨_,rfl,.inl ⟨HS.o,rfl⟩,Below.refl _ _⟩
theorem grow_more {b x:Int} (hx:0≤x) (hx1:x≤1000000000) (hb:0≤b):grow b x=x+min (x*b / 10000) (1000000000 - x):=by
 unfold grow;have:=Int.mul_nonneg hx hb;generalize x*b=p at *;omega
theorem pgrowth (x b:Int) (w:World) (hx:0≤x∧x≤1000000000) (hb:0≤b∧b≤10000):Calls Tryz.prog 206 #[.agg #[zI x,zI b]] w fun e w'=>e = .returned (zI (min (x*b / 10000) (1000000000 - x)))∧Below w.heap.size w w':=by
 have HPA:Hid (∀ W,Calls Tryz.prog 165 #[zI x,zI b] W fun e w'=>e = .returned (.tuple #[zI (x*b / 10000),zI 0])∧Below W.heap.size W w'):=fun W=>cents.part_yes x b W hx.1 (by omega) hb.1 hb.2;have HBX:Hid (Blk (w.alloc (.cells #[zI x,zI b] 70)) w.heap.size #[zI x,zI b] 70):=Blk.new w _ _;have HBW:Hid (Below w.heap.size w (w.alloc (.cells #[zI x,zI b] 70))):=(Below.refl _ _).alloc (Nat.le_refl _) _;obtain ⟨hx0,hx1⟩:=hx;clear hb;have hmin:=tar.run_min (x*b / 10000) (1000000000 - x) _ rfl;generalize x*b / 10000=q at *;generalize min q (1000000000 - x)=m at *;go_enter Tryz.func206,Tryz.ntmps206;go_wp2_with fail;refine (HPA.o _).mono ?_;rintro e w1 ⟨rfl,hb1⟩;have HB1:=shB HBW hb1;have c0:w1.cell? ⟨w.heap.size,0,none⟩=some (zI x):=(HBX.o.next hb1).cell 0;have c1:w1.cell? ⟨w.heap.size,1,none⟩=some (zI b):=(HBX.o.next hb1).cell 1;clear hb1 HPA HBX HBW;go_wp2_with fail;go_ret;exact ⟨rfl,HB1.o⟩
theorem debtT:PairT Tryz.prog 70 49:=⟨by kernel_rfl,Tryz.underlying49⟩
end deb
namespace tar
open Go.RowKit
def KtCheck:Prop:=∀ (W:World) (a:Option Addr) (len cap:Nat) (ls:List Du),Came W a len cap ls→Calls Tryz.prog 68 #[.slice a len cap] W fun e w'=>ErrPost W (FaultIs ls) e w'
open Classical in
theorem prises (b off k cap:Nat) (ls:List Du) (w1:World) (hs1:1≤k) (hs2:k≤8) (hlen:ls.length=k) (hbl:b<w1.heap.size) (hc:∀ i,i<k→w1.cell? ⟨b,off+i*2,none⟩=some (zI (ls.getD i du0).a)∧w1.cell? ⟨b,off+i*2+1,none⟩=some (zI (ls.getD i du0).b)):Calls Tryz.prog 114 #[.slice (some ⟨b,off,none⟩) k cap] w1 fun e w'=>e = .returned (.bool (decide (Rises ls)))∧Below w1.heap.size w1 w':=by
 have HC:Hid (∀ i,i<k→w1.cell? ⟨b,off+i*2,none⟩=some (zI (ls.getD i du0).a)∧w1.cell? ⟨b,off+i*2+1,none⟩=some (zI (ls.getD i du0).b)):=hc;have HLEN:Hid (ls.length=k):=hlen;have hnm:k≤9223372036854775807:=by omega
 clear hc hlen;go_enter Tryz.func114,Tryz.ntmps114;go_wp2_with fail;go_loopw [3] (fun x wr2=>∃ j:Nat,1≤j∧j≤k∧x=zI (j:Int)∧(∀ i,1≤i→i<j→(ls.getD (i - 1) du0).a<(ls.getD i du0).a)∧Below w1.heap.size w1 wr2) (fun x _=>k - (intOf x).toNat)
 case atStart=>exact ⟨1,Nat.le_refl _,hs1,rfl,fun i h1 h2=>absurd h2 (by omega),Below.refl _ _⟩
 case round=>
  obtain ⟨j,hj1,hj,rfl,hf,hb⟩:=hrel;have HF:Hid (∀ i,1≤i→i<j→(ls.getD (i - 1) du0).a<(ls.getD i du0).a):=hf;have HB:Hid (Below w1.heap.size w1 wr):=hb;by_cases hlt2:j<k
  ·have hdl2:decide ((j:Int)<(k:Int))=true:=by simp;omega
   have c0:wr.cell? ⟨b,off+j*2,none⟩=some (zI (ls.getD j du0).a):=(hb.cell (p:=⟨b,off+j*2,none⟩) hbl).trans (HC.o j hlt2).1;have c1:wr.cell? ⟨b,off+(j - 1)*2,none⟩=some (zI (ls.getD (j - 1) du0).a):=(hb.cell (p:=⟨b,off+(j - 1)*2,none⟩) hbl).trans (HC.o (j - 1) (by omega)).1;have hs2':wr.drew.cell? ⟨b,off+j*2,none⟩=some (zI (ls.getD j du0).a):=c0;have HBD:Hid (Below w1.heap.size w1 wr.drew):=hb.drew;have hsub:((j:Int) - 1)=((j - 1:Nat):Int):=by omega
   have hjm:j - 1<k:=by omega
   clear hb hf;by_cases hle:(ls.getD j du0).a≤(ls.getD (j - 1) du0).a
   ·have hde:decide ((ls.getD j du0).a≤(ls.getD (j - 1) du0).a)=true:=decide_eq_true hle
    have HN:Hid (decide (Rises ls)=false):=decide_eq_false fun h=>by
     have:=h j hj1 (by rw [HLEN.o];exact hlt2);omega
    clear hle;generalize (ls.getD j du0).a=x at *;generalize (ls.getD (j - 1) du0).a=y at *;generalize j - 1=j1 at *;go_wp2_with fail;go_region
    all_goals go_wp2_with fail
    go_ret;exact ⟨by rw [HN.o];rfl,HBD.o⟩
   ·have hde:decide ((ls.getD j du0).a≤(ls.getD (j - 1) du0).a)=false:=decide_eq_false hle
    have HF2:Hid (∀ i,1≤i→i<j+1→(ls.getD (i - 1) du0).a<(ls.getD i du0).a):=fun i h1 h2=>by
     by_cases e:i=j
     ·subst e;omega
     ·exact HF.o i h1 (by omega)
    clear hle;generalize (ls.getD j du0).a=x at *;generalize (ls.getD (j - 1) du0).a=y at *;generalize j - 1=j1 at *;go_wp2_with fail;go_region
    all_goals go_wp2_with fail
    go_roundw
    case rel=>exact ⟨j+1,by omega,by omega,by go_num,HF2.o,HBD.o⟩
    case measure=>simp [intOf];omega
  ·obtain rfl:j=k:=by omega
   have hdl2:decide ((j:Int)<(j:Int))=false:=by simp
   have HR:Hid (decide (Rises ls)=true):=decide_eq_true fun i h1 h2=>HF.o i h1 (by rw [HLEN.o] at h2;exact h2);clear hb hf;go_wp2_with fail;go_ret;exact ⟨by rw [HR.o];rfl,HB.o⟩
open Go.Shelf
attribute [local go_sem] Oper.semAt_some
theorem boxed_same {W W':World} {B:Nat} {t:TypeId} {v:Value} (h:Boxed W B t v) (e:W'.heap[B]?=W.heap[B]?):Boxed W' B t v:=e.trans h
theorem lines1_in (F:Fence) (n:Nat) (hF:F.fn 203) (hro:F.round=none) (hn:1≤n) (l Bf Bt Bu n₀ lo hi b off len cap B0:Nat) (ls:List Du) (x u:Int) (J Jx:List Ln→World→Prop)
  (hR:Right ls) (hlen:ls.length=len) (hx:0≤x∧x≤10000000) (hu:0≤u∧x+u≤10000000) (hJ:AbidesFrom B0 J)
  (hY:∀ pre t W,J pre W→pre.length<len→YieldAt F (n - 1) Tryz.prog l (encL t) W fun e W'=>
   (e = .returned (.bool true)∧J (pre++[t]) W'∧Kq n₀ lo hi W W')∨(e = .returned (.bool false)∧Jx (pre++[t]) W'))
  (W:World) (hf:Boxed W Bf 3 (zI x)) (ht:Boxed W Bt 22 (.slice (some ⟨b,off,none⟩) len cap)) (hun:Boxed W Bu 3 (zI u)) (h1:lo≤Bf∧Bf<hi) (h2:lo≤Bu∧Bu<hi) (hb:b<n₀) (hnW:n₀≤W.heap.size)
  (hc:∀ i,i<len→W.cell? ⟨b,off+i*2,none⟩=some (zI (ls.getD i du0).a)∧W.cell? ⟨b,off+i*2+1,none⟩=some (zI (ls.getD i du0).b)) (h0:J [] W) :
  CallsIn F n Tryz.prog 203 #[.func (.yield l) #[] #[],.pointer (some ⟨Bf,0,none⟩),.pointer (some ⟨Bt,0,none⟩),.pointer (some ⟨Bu,0,none⟩)] W fun e W'=>(∃ v,e = .returned v) ∧
   ((∃ ys,lns ys=billK ls x (x+u) len∧J ys W')∨(∃ pre,lns pre <+: billK ls x (x+u) len∧Jx pre W')):=by
 have HR:Hid (Right ls):=hR
 have HY:Hid (∀ pre t W,J pre W→pre.length<len→YieldAt F (n - 1) Tryz.prog l (encL t) W fun e W'=>
   (e = .returned (.bool true)∧J (pre++[t]) W'∧Kq n₀ lo hi W W')∨(e = .returned (.bool false)∧Jx (pre++[t]) W')):=hY
 have HJ:Hid (AbidesFrom B0 J):=hJ;have HC:Hid (∀ i,i<len→W.cell? ⟨b,off+i*2,none⟩=some (zI (ls.getD i du0).a)∧W.cell? ⟨b,off+i*2+1,none⟩=some (zI (ls.getD i du0).b)):=hc;have HLEN:Hid (ls.length=len):=hlen;have hl8:len≤8:=by have:=hR.1.2;omega
 have ct:=ht.cell;have cf:=hf.cell;obtain ⟨hx0,hx1⟩:=hx;obtain ⟨hu0,hu1⟩:=hu;have HX:Hid (0≤x∧x≤x+u∧x+u≤10000000):=⟨hx0,by omega,hu1⟩
 clear hR hY hJ hc hlen;refine callsIn_of_wp Tryz.func203 rfl hF ?_ hro;simp only [Tryz.ntmps203,List.size_toArray,List.length_cons,List.length_nil,Nat.reduceAdd,Nat.reduceSub,Array.replicate_succ,Array.replicate_zero,List.push_toArray,List.append_toArray,List.nil_append,List.cons_append]
 gi_wp2
 gi_loopw [5,12] (fun r i wr=>∃ (k:Nat) (pre:List Ln),k≤len∧i=zI (k:Int)∧r=zI (x+manyK ls x (x+u) k)∧lns pre=billK ls x (x+u) k∧J pre wr∧Boxed wr Bf 3 (zI x)∧Boxed wr Bu 3 (zI u)∧Below n₀ W wr) (fun _ i _=>len - (intOf i).toNat)
 case atStart=>exact ⟨0,[],Nat.zero_le _,rfl,by show _=Value.int .i64 (x+0);rw [Int.add_zero],rfl,h0,hf,hun,Below.refl _ _⟩
 case round=>
  obtain ⟨k,pre,hk,rfl,rfl,hpre,hj,hbf,hbu,hbl⟩:=hrel;have HPRE:Hid (lns pre=billK ls x (x+u) k):=hpre;have HJP:Hid (J pre wr):=hj;have HBF:Hid (Boxed wr Bf 3 (zI x)):=hbf;have HBU:Hid (Boxed wr Bu 3 (zI u)):=hbu;have HBL:Hid (Below n₀ W wr):=hbl;clear hpre hj hf hun ht ct cf;by_cases hlt:k<len
  ·have hdl:decide ((k:Int)<(len:Int))=true:=by simp;omega
   have c0:wr.cell? ⟨b,off+k*2,none⟩=some (zI (ls.getD k du0).a):=(hbl.cell (p:=⟨b,off+k*2,none⟩) hb).trans (HC.o k hlt).1;have c1:wr.cell? ⟨b,off+k*2+1,none⟩=some (zI (ls.getD k du0).b):=(hbl.cell (p:=⟨b,off+k*2+1,none⟩) hb).trans (HC.o k hlt).2;have hkl:k<ls.length:=by rw [HLEN.o];exact hlt
   have hpr:=HR.o.price k hkl;have hup:=HR.o.upto k hkl;have hmb:=many_bd HR.o x (x+u) hx0 (by omega) k (by omega);have hmin:=run_min (ls.getD k du0).a (x+u) _ rfl
   have hpl:pre.length<len:=by
    have e1:=lns_len pre;have e2:=bill_len ls x (x+u) k;rw [HPRE.o] at e1;omega
   have HBA:Hid (∀ o,Below n₀ W (wr.alloc o)):=fun o=>hbl.alloc (Nat.le_trans hnW hbl.size) o;have cf:∀ o,(wr.alloc o).cell? ⟨Bf,0,none⟩=some (zI x):=fun o=>(hbf.alloc o).cell;have cu:∀ o,(wr.alloc o).cell? ⟨Bu,0,none⟩=some (zI u):=fun o=>(hbu.alloc o).cell;have HFA:Hid (∀ o,Boxed (wr.alloc o) Bf 3 (zI x)):=fun o=>hbf.alloc o;have HUA:Hid (∀ o,Boxed (wr.alloc o) Bu 3 (zI u)):=fun o=>hbu.alloc o;have HJA:Hid (∀ o,J pre (wr.alloc o)):=fun o=>HJ.o pre wr _ none HJP.o (World.grownBy_alloc wr o none) (fun r e=>by cases e);clear hbf hbu hbl;by_cases hp:0<min (ls.getD k du0).a (x+u) - (x+manyK ls x (x+u) k)
   ·have ho:=nxt_yes HR.o x (x+u) hx0 (by omega) k hkl hp;have hp2:=hp;rw [ho] at hp2;have hok:=line_ok HR.o x (x+u) k hkl hp2;have HN:Hid (billK ls x (x+u) (k+1)=billK ls x (x+u) k++[⟨ov (low ls k) (ls.getD k du0).a x (x+u),(ls.getD k du0).b,ov (low ls k) (ls.getD k du0).a x (x+u)*(ls.getD k du0).b⟩]):=billK_yes ls x (x+u) k hp2;have HM:Hid (manyK ls x (x+u) (k+1)=manyK ls x (x+u) k+ov (low ls k) (ls.getD k du0).a x (x+u)):=many_next ls x (x+u) k;have hm2:=many_bd HR.o x (x+u) hx0 (by omega) (k+1) (by omega);rw [HM.o] at hm2;have hle:=ov_le (low ls k) (ls.getD k du0).a x (x+u) (HR.o.low_pos k (by omega)) hup.2;have hpb:=prod_bd (Int.le_of_lt hp2) hle hpr.1 hpr.2;generalize ov (low ls k) (ls.getD k du0).a x (x+u)=o at *;generalize manyK ls x (x+u) k=mk at *;generalize (ls.getD k du0).a=up at *;generalize (ls.getD k du0).b=p at *;generalize min up (x+u)=m at *;have hm:m - (x+mk)=o:=ho;have hdo:decide (o≤0)=false:=by simp;omega
    have HQ:Hid (∀ C,YieldAt F (n - 1) Tryz.prog l (encL ⟨⟨o,p,o*p⟩,hok⟩) (wr.alloc C) fun e W'=>
     (e = .returned (.bool true)∧J (pre++[⟨⟨o,p,o*p⟩,hok⟩]) W'∧Kq n₀ lo hi (wr.alloc C) W')∨(e = .returned (.bool false)∧Jx (pre++[⟨⟨o,p,o*p⟩,hok⟩]) W')):=fun C=>HY.o pre ⟨⟨o,p,o*p⟩,hok⟩ _ (HJA.o C) hpl
    obtain ⟨fn,tmps,assign,body,hy,hRd⟩:=HQ.o (.cells #[zI up,zI p] 198)
    have HNX:Hid (lns (pre++[⟨⟨o,p,o*p⟩,hok⟩])=billK ls x (x+u) (k+1)):=by
     show _=_;rw [lns_app,HPRE.o,HN.o];rfl
    have hpb0:=hpb.1;have hpb1:=hpb.2;have hxm0:0≤x+mk:=by omega
    have hxm1:x+mk≤10000000:=by omega
    have hm0:0≤m:=by omega
    have hm1:m≤20000000:=by omega
    have hs1:x+mk+o≤10000000:=by omega
    have ho0:0≤o:=by omega
    simp only [encL] at hy;clear ho hp HQ hmb hm2 hpb hpr hup
    gi_wp2
    refine hRd.mono ?_;rintro e W3 (⟨rfl,hJ3,hk3⟩ | ⟨rfl,hJx3⟩)
    ·have HB3:Hid (Below n₀ W W3):=(HBA.o _).trans hk3.1;have HF3:Hid (Boxed W3 Bf 3 (zI x)):=boxed_same (HFA.o _) (hk3.2 Bf h1.1 h1.2);have HU3:Hid (Boxed W3 Bu 3 (zI u)):=boxed_same (HUA.o _) (hk3.2 Bu h2.1 h2.2);have HJ3:Hid (J (pre++[⟨⟨o,p,o*p⟩,hok⟩]) W3):=hJ3;clear hk3 hJ3
     gi_wp2
     go_roundw
     case rel=>exact ⟨k+1,pre++[⟨⟨o,p,o*p⟩,hok⟩],by omega,by go_num,by rw [HM.o,Int.add_assoc],HNX.o,HJ3.o,HF3.o,HU3.o,HB3.o⟩
     case measure=>simp [intOf];omega
    ·have HJX:Hid (Jx (pre++[⟨⟨o,p,o*p⟩,hok⟩]) W3):=hJx3;clear hJx3
     gi_wp2
     refine bodyPost_ret (results_none rfl _ _ _) rfl ?_;exact ⟨⟨_,rfl⟩,.inr ⟨pre++[⟨⟨o,p,o*p⟩,hok⟩],by rw [HNX.o];exact bill_prefix ls x (x+u) (k+1) len (by omega),HJX.o⟩⟩
   ·have ho:=nxt_no HR.o x (x+u) hx0 (by omega) k hkl hp;have hmz:0≤min (ls.getD k du0).a (x+u):=by omega
    have HN:Hid (billK ls x (x+u) (k+1)=billK ls x (x+u) k):=billK_no ls x (x+u) k (by omega);have HM:Hid (manyK ls x (x+u) (k+1)=manyK ls x (x+u) k):=by show _=_;rw [many_next,ho,Int.add_zero]
    generalize manyK ls x (x+u) k=mk at *;generalize (ls.getD k du0).a=up at *;generalize (ls.getD k du0).b=p at *;generalize min up (x+u)=m at *;have hxm0:0≤x+mk:=by omega
    have hxm1:x+mk≤10000000:=by omega
    have hdo:decide (m - (x+mk)≤0)=true:=by simp;omega
    have hm0:0≤m:=hmz;have hm1:m≤20000000:=by omega
    clear ho hp hmb hpr hup
    gi_wp2
    go_roundw
    case rel=>exact ⟨k+1,pre,by omega,by go_num,by rw [HM.o],by rw [HN.o];exact HPRE.o,HJA.o _,HFA.o _,HUA.o _,HBA.o _⟩
    case measure=>simp [intOf];omega
  ·obtain rfl:k=len:=by omega
   have hdl:decide ((k:Int)<(k:Int))=false:=by simp
   clear hbf hbu hbl
   gi_wp2
   go_end0;exact ⟨⟨_,rfl⟩,.inl ⟨pre,HPRE.o,HJP.o⟩⟩
end tar
namespace deb
open tar (Du du0 Came RowD Ld ErrPost TwoPost PairT)
open Go.RowKit
theorem powed (a:Option Addr) (len cap:Nat) (ls:List Du) (w:World) (hr:RowD w a len ls) (hm:Mays ls):Calls Tryz.prog 200 #[.slice a len cap] w fun e w'=>e = .returned (zI (sumD ls))∧Below w.heap.size w w':=by
 have HLEN:Hid (ls.length=len):=hr.1;have HM:Hid (Mays ls):=hm;have hl8:len≤8:=by have:=hm.1;have:=hr.1;omega
 have HROW:Hid (RowD w a len ls):=hr;clear hm hr;go_enter Tryz.func200,Tryz.ntmps200;go_wp2_with fail;go_loopw [3,8] (fun v x wr=>∃ k:Nat,k≤len∧x=zI (k:Int)∧v=zI (sumK ls k)∧Below w.heap.size w wr) (fun _ x _=>len - (intOf x).toNat)
 case atStart=>exact ⟨0,Nat.zero_le _,rfl,rfl,Below.refl _ _⟩
 case round=>
  obtain ⟨k,hk,rfl,rfl,hb⟩:=hrel;have hsb:=sumK_bd HM.o k (by rw [HLEN.o];exact hk);have HB:Hid (Below w.heap.size w wr):=hb;by_cases hlt:k<len
  ·have hdl:decide ((k:Int)<(len:Int))=true:=by simp;omega
   obtain ⟨b,off,rfl,hbl,hc⟩:=HROW.o.at (by omega);have c0:wr.cell? ⟨b,off+k*2,none⟩=some (zI (ls.getD k du0).a):=(hb.cell (p:=⟨b,off+k*2,none⟩) hbl).trans (hc k hlt).1;have c1:wr.cell? ⟨b,off+k*2+1,none⟩=some (zI (ls.getD k du0).b):=(hb.cell (p:=⟨b,off+k*2+1,none⟩) hbl).trans (hc k hlt).2;have HBA:Hid (∀ o,Below w.heap.size w (wr.alloc o)):=fun o=>hb.alloc hb.size o;have ho:=(HM.o.2 k (by rw [HLEN.o];exact hlt)).1;have HN:Hid (sumK ls k+(ls.getD k du0).a=sumK ls (k+1)):=(sumK_next ls k).symm;clear hc hb;generalize sumK ls k=s at *;generalize (ls.getD k du0).a=x at *;generalize (ls.getD k du0).b=y at *;go_wp2_with fail;go_roundw
   case rel=>exact ⟨k+1,by omega,by go_num,by rw [← HN.o],HBA.o _⟩
   case measure=>simp [intOf];omega
  ·obtain rfl:k=len:=by omega
   have hdl:decide ((k:Int)<(k:Int))=false:=by simp
   have HV:Hid (sumK ls k=sumD ls):=by have:=sumK_all ls;rw [HLEN.o] at this;exact this
   generalize sumK ls k=s at *;clear hb;go_wp2_with fail;go_ret;exact ⟨congrArg (fun z=>Ending.returned (Value.int .i64 z)) HV.o,HB.o⟩
end deb
namespace acc
open tar (Du)
open Go.RowKit
def KcGrant:Prop:=∀ (W:World) (x:Ac) (p:Option Addr) (len cap:Nat) (t:Tm) (pt:Option Addr) (lt ct:Nat) (m:Int),ACame W x p len cap→TCame W t pt lt ct→(Lit.int .i64 m).wf=true→Calls Tryz.prog 77 #[x.v p len cap,t.v pt lt ct,zI m] W fun e w'=>BPost W (GrantIs x t m) e w'
end acc
namespace token
open Go.ChangeShapes Go.WideShapes Go.ChangeAt Go.RowKit Go.Deep
def Eight (w:World) (g:Nat) (a0 a1 a2 a3 a4 a5 a6 a7:Int):Prop:=
 ∃ t fr,w.heap[g]?=some (.cells #[zI a0,zI a1,zI a2,zI a3,zI a4,zI a5,zI a6,zI a7] t fr)
structure TTab (w:World):Prop where
 places:Eight w 1 57 3 37 20 16 21 0 16
 amounts:Eight w 0 1 2097151 0 0 1 15 0 0
theorem Eight.lt {w:World} {g:Nat} {a0 a1 a2 a3 a4 a5 a6 a7:Int} (h:Eight w g a0 a1 a2 a3 a4 a5 a6 a7):g<w.heap.size:=by
 obtain ⟨t,fr,h⟩:=h;by_cases hh:g<w.heap.size
 ·exact hh
 ·rw [Array.getElem?_eq_none (by omega)] at h;cases h
theorem Eight.below {w w':World} {g:Nat} {a0 a1 a2 a3 a4 a5 a6 a7:Int} (h:Eight w g a0 a1 a2 a3 a4 a5 a6 a7) (hb:Below w.heap.size w w'):Eight w' g a0 a1 a2 a3 a4 a5 a6 a7:=by
 have hl:=h.lt;obtain ⟨t,fr,h⟩:=h;exact ⟨t,fr,by rw [hb.block g hl];exact h⟩
theorem TTab.below {w w':World} (h:TTab w) (hb:Below w.heap.size w w'):TTab w':=⟨h.places.below hb,h.amounts.below hb⟩
theorem list8 {α:Type} (l:List α) (h:l.length=8):∃ a b c d e f g i,l=[a,b,c,d,e,f,g,i]:=by
 match l,h with
 | [a,b,c,d,e,f,g,i],_=>exact ⟨a,b,c,d,e,f,g,i,rfl⟩
theorem two_of {H:Type} {enc:TypeId × Value→H} {P:Program} {w:World} {base:Nat} {spare:Nat→Bool} {held:Bool} {fuel:Nat} {t e:TypeId} {f0 f1:Field} {c0 c1:Value} {a0 a1:Int} {p:List MemPlace}
  (ht:P.underlying t=some (.struct #[f0,f1])) (hone:oneCellFields P #[f0,f1]=true) (he:P.underlying e=some (.int .i64)) (e0:f0.type=e) (e1:f1.type=e)
  (h:DataW.trod enc P w base spare held fuel t [c0,c1]=some (.agg [.lit (.int .i64 a0),.lit (.int .i64 a1)],p)):c0=zI a0∧c1=zI a1:=by
 obtain ⟨y0,y1,n,hx,_,h0,h1⟩:=trod_struct2 ht h;obtain ⟨o0,k0⟩:=hone_of hone 0 f0 rfl;obtain ⟨o1,k1⟩:=hone_of hone 1 f1 rfl;rw [o0,k0,e0] at h0;rw [o1,k1,e1] at h1;obtain ⟨x0,u0,rfl,_⟩:=DataW.trod_int he h0;obtain ⟨x1,u1,rfl,_⟩:=DataW.trod_int he h1;simp at u0 u1 hx;obtain ⟨⟨rfl,rfl⟩,_⟩:=hx;exact ⟨u0,u1⟩
theorem trod_array4w {H:Type} {enc:TypeId × Value→H} {P:Program} {w:World} {base:Nat} {spare:Nat→Bool} {held:Bool} {t e:TypeId} {fuel:Nat} {cs:List Value} {x:DataW H × List MemPlace} (ht:P.underlying t=some (.array 4 e)) (hce:P.cellsOf e=2) (hct:P.cellsOf t=8)
  (h:DataW.trod enc P w base spare held fuel t cs=some x) :
  cs.length=8∧∃ y0 y1 y2 y3 n,x=(.agg [y0.1,y1.1,y2.1,y3.1],y0.2++(y1.2++(y2.2++y3.2)))∧DataW.trod enc P w base spare held n e (cs.take 2)=some y0∧DataW.trod enc P w base spare held n e ((cs.drop 2).take 2)=some y1∧DataW.trod enc P w base spare held n e ((cs.drop 4).take 2)=some y2∧DataW.trod enc P w base spare held n e ((cs.drop 6).take 2)=some y3:=by
 cases fuel with
 | zero=>simp [DataW.trod] at h
 | succ n=>
  unfold DataW.trod at h;rw [ht] at h;have r4:List.range 4=[0,1,2,3]:=rfl;simp [r4,hce,hct] at h;obtain ⟨hl,h⟩:=h;refine ⟨hl,?_⟩;cases h0:DataW.trod enc P w base spare held n e (cs.take 2) with
  | none=>simp [h0] at h
  | some y0=>
   cases h1:DataW.trod enc P w base spare held n e ((cs.drop 2).take 2) with
   | none=>simp [h0,h1] at h
   | some y1=>
    cases h2:DataW.trod enc P w base spare held n e ((cs.drop 4).take 2) with
    | none=>simp [h0,h1,h2] at h
    | some y2=>
     cases h3:DataW.trod enc P w base spare held n e ((cs.drop 6).take 2) with
     | none=>simp [h0,h1,h2,h3] at h
     | some y3=>
      simp [h0,h1,h2,h3] at h;exact ⟨y0,y1,y2,y3,n,by rw [← h],h0,h1,h2,h3⟩
theorem eight_of {W:World} {name:String} {rest:List (String × DataW Unit)} {g:Nat} {t e z:TypeId} {f0 f1:Field} {a0 a1 a2 a3 a4 a5 a6 a7:Int}
  (hg:Tryz.prog.globalNamed name=some g) (hty:(Tryz.prog.globals[g]?).map (·.type)=some t) (ht:Tryz.prog.underlying t=some (.array 4 e)) (hce:Tryz.prog.cellsOf e=2) (hct:Tryz.prog.cellsOf t=8)
  (hs:Tryz.prog.underlying e=some (.struct #[f0,f1])) (hone:oneCellFields Tryz.prog #[f0,f1]=true) (hz:Tryz.prog.underlying z=some (.int .i64)) (e0:f0.type=z) (e1:f1.type=z)
  (h:laidMet Tryz.prog ((name,.agg [.agg [.lit (.int .i64 a0),.lit (.int .i64 a1)],.agg [.lit (.int .i64 a2),.lit (.int .i64 a3)],.agg [.lit (.int .i64 a4),.lit (.int .i64 a5)],.agg [.lit (.int .i64 a6),.lit (.int .i64 a7)]]) :: rest) W):Eight W g a0 a1 a2 a3 a4 a5 a6 a7:=by
 obtain ⟨ps,⟨g',t',cs,fuel,p,q,hg',ht',hvar,hd,_,_⟩,_⟩:=h;obtain rfl:=Option.some.inj (hg.symm.trans hg');obtain rfl:=Option.some.inj (hty.symm.trans ht');obtain ⟨hl,y0,y1,y2,y3,n,hx,h0,h1,h2,h3⟩:=trod_array4w ht hce hct hd;simp only [Prod.mk.injEq,DataW.agg.injEq,List.cons.injEq,and_true] at hx;obtain ⟨⟨x0,x1,x2,x3⟩,_⟩:=hx;obtain ⟨y0,q0⟩:=y0;obtain ⟨y1,q1⟩:=y1;obtain ⟨y2,q2⟩:=y2;obtain ⟨y3,q3⟩:=y3;simp only at x0 x1 x2 x3;subst x0 x1 x2 x3;obtain ⟨c0,c1,c2,c3,c4,c5,c6,c7,hcs⟩:=list8 _ hl;rw [hcs] at h0 h1 h2 h3;obtain ⟨rfl,rfl⟩:=two_of hs hone hz e0 e1 h0;obtain ⟨rfl,rfl⟩:=two_of hs hone hz e0 e1 h1;obtain ⟨rfl,rfl⟩:=two_of hs hone hz e0 e1 h2;obtain ⟨rfl,rfl⟩:=two_of hs hone hz e0 e1 h3;unfold World.var? at hvar;rw [hg] at hvar;simp only [Option.bind_some] at hvar;split at hvar
 ·rename_i cs' t' fr hc
  have hcs':=Option.some.inj hvar;refine ⟨t',fr,?_⟩;rw [hc,hcs']
  congr 2
  first
  | (cases cs;simp_all)
  | simp_all
 ·cases hvar
end token
namespace book
open Go.RowKit
def FindPost (w:World) (l:List Cu) (me:Int) (e:Ending) (w':World):Prop:=∃ x f,e = .returned (.tuple #[zI x,zI f])∧FindIs l me x f∧Below w.heap.size w w'
end book
end Go.Proofs.YtnpblpbohcegoaaGreatDoor
