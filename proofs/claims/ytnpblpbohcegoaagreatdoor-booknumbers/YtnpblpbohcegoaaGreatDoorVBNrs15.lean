import Derived.Test.YtnpblpbohcegoaaGreatDoorVBNrs11
import Derived.Test.YtnpblpbohcegoaaGreatDoorVBNrs14
set_option linter.unusedVariables false
set_option linter.unusedSimpArgs false
set_option maxHeartbeats 4000000
set_option maxRecDepth 100000
namespace Go.Proofs.YtnpblpbohcegoaaGreatDoor
namespace disk
open Go.RowKit cell
def EPost (J:Nat→World→Prop) (c:List Int) (e:Ending) (w':World):Prop:=
 ∃ x f k,e = .returned (.tuple #[zI x,zI f])∧J k w'∧((¬ May c∧x=0∧f=1)∨(May c∧lenAt c (repD c).2<0∧x=0∧f=3)∨(May c∧lenAt c (repD c).2=0∧repD c=itD c k∧x=((repD c).2:Int)∧f=0))
theorem len_zero {c:List Int} {p:Nat} (h:c.getD p 0=0):lenAt c p=0:=by unfold lenAt;rw [if_pos (.inr h)]
theorem len_end {c:List Int} {p:Nat} (h:p=c.length):lenAt c p=0:=by unfold lenAt;rw [if_pos (.inl h)]
theorem len_bad {c:List Int} {p:Nat} (hp:p<c.length) (h0:c.getD p 0≠0) (h:64<c.getD p 0∨(c.length:Int)≤p+c.getD p 0):lenAt c p<0:=by
 unfold lenAt;rw [if_neg (by omega)];by_cases h1:64<c.getD p 0
 ·rw [if_pos h1];decide
 ·rw [if_neg h1,if_pos (by omega)];decide
theorem get_wd {c:List Int} (hw:∀ x∈c,0≤x∧x<4294967296) (p:Nat):0≤c.getD p 0∧c.getD p 0<4294967296:=by
 by_cases h:p<c.length
 ·have e:c.getD p 0=c[p]:=by simp [List.getD,h]
  rw [e];exact hw _ (List.getElem_mem h)
 ·have e:c.getD p 0=0:=by simp [List.getD,Nat.le_of_not_lt h]
  rw [e];decide
theorem rowU_part {W:World} {b o n:Nat} {c:List Int} (h:RowU W (some ⟨b,o,none⟩) n c) {p m:Nat} (hm:(c.getD p 0).toNat=m) (hp:p+m<n):RowU W (some ⟨b,o+(p+1),none⟩) m (recAt c p):=by
 refine ⟨rec_len hm (by rw [h.1];exact hp),.inr ⟨b,o+(p+1),rfl,fun i hi=>?_⟩⟩;obtain ⟨b',o',e,_,hc⟩:=h.at (by omega);cases e;rw [rec_at hm hi,show o+(p+1)+i=o+(p+1+i) by omega];exact hc (p+1+i) (by omega)
theorem each_any (F:Nat) (caps:Array Value) (J:Nat→World→Prop) (a:Option Addr) (n cap:Nat) (c:List Int) (w:World) (hJ:∀ k W,J k W→RowU W a n c) (h0:J 0 w) (hcap:n≤cap) (hw:∀ x∈c,0≤x∧x<4294967296) (hK:∀ args w,(callFunc F args).run Tryz.prog w = .ok (.enter F args) w)
  (hf:∀ (k p m b o:Nat) (W:World),J k W→(itD c k).2=p→itD c (k+1)=((itD c k).1++[recAt c p],p+m+1)→RowU W (some ⟨b,o,none⟩) m (recAt c p)→1≤m→m≤64→p≤2048→Calls Tryz.prog F (#[.slice (some ⟨b,o,none⟩) m m]++caps) W fun e w'=>e = .returned (.tuple #[])∧J (k+1) w') :
  Calls Tryz.prog 62 #[.slice a n cap,.func (.func F) #[] caps] w fun e w'=>EPost J c e w':=by
 have hcl:=(hJ 0 w h0).1;have H0:Hid (J 0 w):=h0;have HN:Hid (c.length=n):=hcl;by_cases hmay:1≤n∧n≤2048
 ·obtain ⟨b,o,rfl,_,_⟩:=(hJ 0 w h0).at (by omega);have HJ:Hid (∀ k W,J k W→RowU W (some ⟨b,o,none⟩) n c):=hJ
  have HCL:Hid (∀ k W,J k W→∀ j,j<n→W.cell? ⟨b,o+j,none⟩=some (.int .u32 (c.getD j 0))):=fun k W h j hj=>by
   obtain ⟨b',o',e,_,hc⟩:=(hJ k W h).at (by omega);cases e;exact hc j hj
  have HW:Hid (∀ p,0≤c.getD p 0∧c.getD p 0<4294967296):=get_wd hw;have HF:Hid (∀ (k p m b o:Nat) (W:World),J k W→(itD c k).2=p→itD c (k+1)=((itD c k).1++[recAt c p],p+m+1)→RowU W (some ⟨b,o,none⟩) m (recAt c p)→1≤m→m≤64→p≤2048→Calls Tryz.prog F (#[.slice (some ⟨b,o,none⟩) m m]++caps) W fun e w'=>e = .returned (.tuple #[])∧J (k+1) w'):=hf;have HMY:Hid (May c):=⟨by omega,by omega⟩
  obtain ⟨hn1,hn2⟩:=hmay;have d1:decide ((n:Int)<1)=false:=by simp;omega
  have d2:decide ((2048:Int)<(n:Int))=false:=by simp;omega
  clear hJ hf hw hcl h0;go_enter Tryz.func62,Tryz.ntmps62;go_wp2_with fail;go_loopw [6] (fun v6 wr=>∃ (k p:Nat),p≤n∧v6=zI (p:Int)∧(itD c k).2=p∧J k wr) (fun v6 _=>n+1 - (intOf v6).toNat)
  case atStart=>exact ⟨0,0,Nat.zero_le _,rfl,rfl,H0.o⟩
  case round=>
   obtain ⟨k,p,hp,rfl,hk,hj⟩:=hrel;have HJK:Hid (J k wr):=hj;have HK:Hid ((itD c k).2=p):=hk;clear hj hk H0;by_cases hpn:p<n
   ·have k2:=HCL.o k wr HJK.o p hpn;have hz:=HW.o p;have e1:decide ((p:Int)<(n:Int))=true:=by simp;omega
    by_cases hz0:c.getD p 0=0
    ·have HL0:Hid (lenAt c p=0):=len_zero hz0
     have HE:Hid (EPost J c (.returned (.tuple #[zI (p:Int),zI 0])) wr):=by
      have hd:¬ 0<lenAt c (itD c k).2:=by rw [HK.o,HL0.o];decide
      have hr:=rep_of hd;exact ⟨_,_,k,rfl,HJK.o,.inr (.inr ⟨HMY.o,by rw [hr,HK.o];exact HL0.o,hr,by rw [hr,HK.o],rfl⟩)⟩
     rw [hz0] at k2;clear hz hz0 HJ HCL HW HF HK HJK HL0;go_wp2_with fail;go_ret2;exact HE.o
    ·by_cases hbad:64<c.getD p 0∨(n:Int)≤p+c.getD p 0
     ·have HE:Hid (EPost J c (.returned (.tuple #[zI 0,zI 3])) wr):=by
       have hl:=len_bad (c:=c) (p:=p) (by rw [HN.o];exact hpn) hz0 (by rw [HN.o];exact hbad);have hd:¬ 0<lenAt c (itD c k).2:=by rw [HK.o];omega
       exact ⟨_,_,k,rfl,HJK.o,.inr (.inl ⟨HMY.o,by rw [rep_of hd,HK.o];exact hl,rfl,rfl⟩)⟩
      have e0:(c.getD p 0 != 0)=true:=by simpa using hz0
      clear HJ HCL HW HF HK HJK;generalize c.getD p 0=z at *;obtain ⟨hz1,hz2⟩:=hz;by_cases h64:64<z
      ·have e3:decide ((64:Int)<z)=true:=by simpa using h64
       clear hbad;go_wp2_with fail;go_ret2;exact HE.o
      ·have e3:decide ((64:Int)<z)=false:=by simpa using h64
       have e4:decide ((n:Int)<(p:Int)+1+z)=true:=by simp;omega
       clear hbad;go_wp2_with fail;go_ret2;exact HE.o
     ·obtain ⟨m,hm⟩:∃ m:Nat,c.getD p 0=(m:Int):=⟨(c.getD p 0).toNat,by omega⟩
      have hgm:(c.getD p 0).toNat=m:=by rw [hm];simp
      have hm1:1≤m:=by omega
      have hm2:m≤64:=by omega
      have hpm:p+m<n:=by omega
      have hla:lenAt c p=(m:Int):=by rw [len_of (by omega) (by omega) (by rw [HN.o];omega),hm]
      have HIT:Hid (itD c (k+1)=((itD c k).1++[recAt c p],p+m+1)):=by
       have h:=it_live (c:=c) (k:=k) (by rw [HK.o,hla];omega);rw [HK.o,hla,Int.toNat_natCast] at h;exact h
      have HCC:Hid (Calls Tryz.prog F (#[.slice (some ⟨b,o+(p+1),none⟩) m m]++caps) wr fun e w'=>e = .returned (.tuple #[])∧J (k+1) w'):=HF.o k p m b (o+(p+1)) wr HJK.o HK.o HIT.o (rowU_part (HJ.o k wr HJK.o) hgm hpm) hm1 hm2 (by omega);rw [hm] at k2;have e0:((m:Int) != 0)=true:=by simp;omega
      have e3:decide ((64:Int)<(m:Int))=false:=by simp;omega
      have e4:decide ((n:Int)<(p:Int)+1+(m:Int))=false:=by simp;omega
      have hc1:p+1<cap:=by omega
      clear hz hz0 hbad hm hgm hla HF HJ HW HCL;go_wp2_with fail;refine HCC.o.mono ?_;rintro e w1 ⟨rfl,hj1⟩;have HJ1:Hid (J (k+1) w1):=hj1;clear hj1;go_wp2_with fail;go_roundw
      case rel=>exact ⟨k+1,p+m+1,by omega,by go_num,by rw [HIT.o],HJ1.o⟩
      case measure=>simp [intOf];omega
   ·have e1:decide ((p:Int)<(n:Int))=false:=by simp;omega
    have HE:Hid (EPost J c (.returned (.tuple #[zI (p:Int),zI 0])) wr):=by
     have hl:lenAt c p=0:=len_end (by rw [HN.o];omega);have hd:¬ 0<lenAt c (itD c k).2:=by rw [HK.o,hl];decide
     have hr:=rep_of hd;exact ⟨_,_,k,rfl,HJK.o,.inr (.inr ⟨HMY.o,by rw [hr,HK.o];exact hl,hr,by rw [hr,HK.o],rfl⟩)⟩
    clear HJ HCL HW HF HK HJK;go_wp2_with fail;go_ret2;exact HE.o
 ·have HE:Hid (EPost J c (.returned (.tuple #[zI 0,zI 1])) w):=⟨0,1,0,rfl,H0.o,.inl ⟨fun h=>hmay ⟨by rw [← hcl];exact h.1,by rw [← hcl];exact h.2⟩,rfl,rfl⟩⟩
  clear hJ hf hw h0 H0 hcl HN;go_enter Tryz.func62,Tryz.ntmps62;by_cases h1:1≤n
  ·have d1:decide ((n:Int)<1)=false:=by simp;omega
   have d2:decide ((2048:Int)<(n:Int))=true:=by simp;omega
   go_wp2_with fail;go_ret2;exact HE.o
  ·have d1:decide ((n:Int)<1)=true:=by simp;omega
   go_wp2_with fail;go_ret2;exact HE.o
end disk
namespace book
open Go.RowKit
open Go.ChangeMaps (setBlock heap_setBlock_same heap_setBlock_other)
def entI (m:Int) (i:Nat):MapEntry:={ key:=zI m,val:=zI (i:Int),born:=i }
def entsI:List Int→Nat→List MapEntry
 | [],_=>[]
 | p :: l,i=>entI p i :: entsI l (i+1)
theorem entsI_app (l:List Int) (p:Int) (i:Nat):entsI (l++[p]) i=entsI l i++[entI p (i+l.length)]:=by
 induction l generalizing i with
 | nil=>rfl
 | cons x l ih=>simp only [List.cons_append,entsI,ih,List.length_cons];rw [show i+1+l.length=i+(l.length+1) by omega]
def MpI (w:World) (B:Nat) (l:List Int):Prop:=w.heap[B]?=some (.map (entsI l 0).toArray l.length)
theorem MpI.lt {w:World} {B:Nat} {l:List Int} (h:MpI w B l):B<w.heap.size:=by
 unfold MpI at h;by_cases hh:B<w.heap.size
 ·exact hh
 ·rw [Array.getElem?_eq_none (by omega)] at h;cases h
theorem MpI.below {w w':World} {B:Nat} {l:List Int} (h:MpI w B l) (hb:Below w.heap.size w w'):MpI w' B l:=by
 have hl:=h.lt;unfold MpI at *;rw [hb.block B hl];exact h
theorem MpI.upd {w W:World} {B g:Nat} {cs:Array Value} {t:TypeId} {l:List Int} (h:MpI w B l) (hU:Upd w W g cs t) (hne:B≠g):MpI W B l:=by
 unfold MpI at *;rw [hU.oth B hne];exact h
theorem MpI.new (w:World):MpI (w.alloc (.map #[] 0)) w.heap.size []:=by
 show (w.heap.push _)[w.heap.size]?=_;rw [Array.getElem?_push_size];rfl
def firstI:List Int→Int→Option Nat
 | [],_=>none
 | m :: l,x=>if x=m then some 0 else (firstI l x).map (·+1)
theorem findingI (x:Int):∀ (l:List Int) (i j:Nat),Instr.findNow (.int .i64) (zI x) (entsI l i) j=some ((firstI l x).map fun k=>(j+k,Value.int .i64 ((i+k:Nat):Int)))
 | [],i,j=>rfl
 | m :: l,i,j=>by
  have ih:=findingI x l (i+1) (j+1);unfold firstI;by_cases h:x=m
  ·subst h;simp [entsI,entI,Instr.findNow,Instr.sameNow]
  ·have hb:(x == m)=false:=by simpa using h
   rw [if_neg h];simp only [entsI,entI,Instr.findNow,Instr.sameNow,if_true,hb];rw [ih];cases firstI l x with
   | none=>rfl
   | some k=>simp [show j+1+k=j+(k+1) by omega,show i+1+k=i+(k+1) by omega];omega
theorem zintI (w:World):(zeroValue 3).run Tryz.prog w = .ok (zI 0) w:=by kernel_rfl
theorem chkI (em:Bool) (x:Int) (w:World):(Instr.checkKey em 10000 3 (zI x)).run Tryz.prog w = .ok () w:=by kernel_rfl
theorem keyI (x:Int) (l:List Int) (w:World):(Instr.findKey 3 (zI x) (entsI l 0)).run Tryz.prog w = .ok ((firstI l x).map fun k=>(k,Value.int .i64 (k:Int))) w:=by
 have h:=findingI x l 0 0;simp only [Nat.zero_add] at h;simp [Instr.findKey,run_underlying Tryz.underlying3,Sem.run_bind,h]
theorem lookI_run {w:World} {B:Nat} {l:List Int} (h:MpI w B l) (x:Int) :
  (Instr.lookup 111 (.map (some B)) (zI x) true).run Tryz.prog w = .ok (.tuple #[zI (((firstI l x).getD 0:Nat):Int),.bool (firstI l x).isSome]) w:=by
 have hf:=keyI x l w;cases hl:firstI l x with
 | none=>rw [hl] at hf;simp [Instr.lookup,run_underlying Tryz.underlying111,MapKept.run_getObj_map h,chkI,hf,zintI,Result.andThen,Sem.run_bind]
 | some k=>rw [hl] at hf;simp [Instr.lookup,run_underlying Tryz.underlying111,MapKept.run_getObj_map h,chkI,hf,Result.andThen,Sem.run_bind]
theorem updI_run {w:World} {B:Nat} {l:List Int} (h:MpI w B l) (x:Int) (hn:firstI l x=none) :
  ∃ W,(Instr.mapUpdate 111 (.map (some B)) (zI x) (zI (l.length:Int))).run Tryz.prog w = .ok () W∧MpI W B (l++[x])∧(∀ G,G≠B→W.heap[G]?=w.heap[G]?)∧(∀ B0 w0,B0≤B→Below B0 w0 w→Below B0 w0 W)∧W.heap.size=w.heap.size∧w.grownBy W (some B):=by
 have hf:=keyI x l w;rw [hn] at hf;refine ⟨setBlock w B (.map ((entsI l 0).toArray.push ⟨zI x,zI (l.length:Int),l.length⟩) (l.length+1)),?_,?_,fun G hG=>heap_setBlock_other h _ hG,fun B0 w0 hB hb=>?_,by simp [setBlock],⟨rfl,rfl,rfl,by simp [setBlock],fun k hk hne=>heap_setBlock_other h _ (fun e=>hne (by rw [e]))⟩⟩
 ·simp [Instr.mapUpdate,run_underlying Tryz.underlying111,MapKept.run_getObj_map h,chkI,hf,MapKept.run_setObj_map _ h,Result.andThen,setBlock,Sem.run_bind]
 ·unfold MpI;rw [heap_setBlock_same h,entsI_app,List.length_append];simp [entI]
 ·refine ⟨hb.os,hb.tape,hb.output,by simp [setBlock];exact hb.size,fun k hk=>?_⟩;rw [heap_setBlock_other h _ (by omega)];exact hb.block k hk
theorem mkMapI (w:World):(Instr.makeMap 111 none).run Tryz.prog w = .ok (.map (some w.heap.size)) (w.alloc (.map #[] 0)):=by kernel_rfl
def mes (bk:List Cm):List Int:=bk.map fun c=>c.a.me
theorem mes_len (bk:List Cm):(mes bk).length=bk.length:=by simp [mes]
theorem first_some {bk:List Cm} {x:Int} {k:Nat} (h:firstI (mes bk) x=some k):FirstAt bk x k:=by
 induction bk generalizing k with
 | nil=>cases h
 | cons c bk ih=>
  unfold mes firstI at h;simp only [List.map_cons] at h;by_cases hx:x=c.a.me
  ·rw [if_pos hx] at h;cases h;exact ⟨by simp,hx.symm,fun j hj=>absurd hj (Nat.not_lt_zero _)⟩
  ·rw [if_neg hx] at h;cases hf:firstI (mes bk) x with
   | none=>rw [show firstI (List.map (fun c=>c.a.me) bk) x=none from hf] at h;cases h
   | some m=>
    rw [show firstI (List.map (fun c=>c.a.me) bk) x=some m from hf] at h;cases h;have:=ih hf
    exact ⟨by have:=this.1;simp;omega,this.2.1,fun j hj=>by
     cases j with
     | zero=>exact fun e=>hx e.symm
     | succ j=>exact this.2.2 j (by have:j+1<m+1:=hj;omega)⟩
theorem first_none {bk:List Cm} {x:Int} (h:firstI (mes bk) x=none):NoneAt bk x:=by
 induction bk with
 | nil=>intro j hj;cases hj
 | cons c bk ih=>
  unfold mes firstI at h;simp only [List.map_cons] at h;by_cases hx:x=c.a.me
  ·rw [if_pos hx] at h;cases h
  ·rw [if_neg hx] at h
   have hf:firstI (mes bk) x=none:=by
    cases hf:firstI (mes bk) x with
    | none=>rfl
    | some m=>rw [show firstI (List.map (fun c=>c.a.me) bk) x=some m from hf] at h;cases h
   intro j hj;cases j with
   | zero=>exact fun e=>hx e.symm
   | succ j=>exact ih hf j (by simpa using hj)
theorem mes_set {bk:List Cm} {k:Nat} {c:Cm} (h:c.a.me=(bk.getD k cm0).a.me):mes (bk.set k c)=mes bk:=by
 unfold mes;apply List.ext_getElem?;intro j;simp only [List.getElem?_map,List.getElem?_set];by_cases hj:k=j
 ·subst hj;rw [if_pos rfl];by_cases hl:k<bk.length
  ·rw [if_pos hl,List.getElem?_eq_getElem hl];simp only [Option.map_some,h,List.getD,List.getElem?_eq_getElem hl,Option.getD]
  ·rw [if_neg hl,List.getElem?_eq_none (by omega)]
 ·rw [if_neg hj]
open acc (Ac Tm Bi APost BPost TFault TRight OpenIs OweIs SellIs GrantIs RekeyIs wf6 ACame TCame)
theorem wf_i {z:Int} (h0:-1≤z) (h1:z≤4000000000):(Lit.int .i64 z).wf=true:=by
 have h1:IntKind.i64.min≤z:=by
  have e:IntKind.i64.min=-9223372036854775808:=by decide
  omega
 have h2:z≤IntKind.i64.max:=by
  have e:IntKind.i64.max=9223372036854775807:=by decide
  omega
 show (decide (IntKind.i64.min≤z) && decide (z≤IntKind.i64.max))=true;rw [Bool.and_eq_true];exact ⟨decide_eq_true h1,decide_eq_true h2⟩
theorem may_wf {a:Ac} (h:acc.AMay a):wf6 a:=by
 obtain ⟨_,⟨a1,a2⟩,⟨b1,b2⟩,⟨c1,c2⟩,⟨d1,d2⟩,⟨e1,e2⟩,f1,f2⟩:=h;exact ⟨wf_i (by omega) (by omega),wf_i (by omega) (by omega),wf_i (by omega) (by omega),wf_i (by omega) (by omega),wf_i (by omega) (by omega),wf_i (by omega) (by omega)⟩
def AWf (bk:List Cm):Prop:=∀ c∈bk,wf6 c.a
theorem owe_wf {a b:Ac} {d:tar.Du} (h:OweIs a d b 0):wf6 b∧b.me=a.me:=by
 rcases h with ⟨_,_,e⟩ | ⟨_,_,_,e⟩ | ⟨_,_,_,_,e⟩ | ⟨p,_,_,rfl,_⟩
 ·cases e
 ·cases e
 ·cases e
 ·have h:=may_wf p;exact ⟨⟨h.1,h.2.1,h.2.2.1,h.2.2.2.1,h.2.2.2.2.1,h.2.2.2.2.2⟩,rfl⟩
theorem tells_wf {t:Tm} {c:Cm} {v:Ev} {b:Ac} {l:Bi} (h:Tells t c v b l 0) (hl:l.un≤2097151) (hl0:0≤l.un):wf6 b∧b.me=c.a.me:=by
 rcases h with ⟨_,h⟩ | ⟨_,h⟩ | ⟨_,h⟩
 ·rcases h with ⟨p,_,_⟩ | ⟨_,_,e,_⟩ | ⟨_,_,_,e,_⟩ | ⟨hr,_,_,_,u,_,rfl,rfl⟩
  ·exact absurd rfl (fun (q:(0:Int)=0)=>by
    rcases p with ⟨_,p⟩ | ⟨_,p,q'⟩ | ⟨_,_,_,p⟩
    ·cases p
    ·exact p (q'.ok.1 rfl)
    ·exact p.ne rfl)
  ·cases e
  ·cases e
  ·obtain ⟨_,⟨a1,a2⟩,⟨b1,b2⟩,⟨c1,c2⟩,⟨d1,d2⟩,⟨e1,e2⟩,f1,f2⟩:=hr.1;obtain ⟨_,_,_,_,⟨m1,m2⟩,⟨k1,k2⟩,_⟩:=acc.rolled_may hr.1 hr.2.2;have hm:=hr.2.2.1;have hu:u≤2097151:=hl;have hu0:0≤u:=hl0;refine ⟨⟨wf_i (z:=c.a.me) (by omega) (by omega),wf_i (z:=c.a.rv) (by omega) (by omega),wf_i (z:=c.a.nx+1) (by omega) (by omega),wf_i (z:=v.mo) (by omega) (by omega),wf_i (z:=(acc.rolled c.a v.mo).bo+u) (by omega) (by omega),wf_i (z:=c.a.fr) (by omega) (by omega)⟩,rfl⟩
 ·rcases h with ⟨p,_,_⟩ | ⟨_,_,e,_⟩ | ⟨_,_,_,e,_⟩ | ⟨_,_,_,_,e,_⟩ | ⟨hr,_,_,_,_,rfl,_⟩
  ·exact absurd rfl (fun (q:(0:Int)=0)=>by
    rcases p with ⟨_,p⟩ | ⟨_,p,q'⟩ | ⟨_,_,_,p⟩
    ·cases p
    ·exact p (q'.ok.1 rfl)
    ·exact p.ne rfl)
  ·cases e
  ·cases e
  ·cases e
  ·obtain ⟨_,⟨a1,a2⟩,⟨b1,b2⟩,⟨c1,c2⟩,⟨d1,d2⟩,⟨e1,e2⟩,f1,f2⟩:=hr.1;obtain ⟨_,_,_,_,⟨m1,m2⟩,⟨k1,k2⟩,_⟩:=acc.rolled_may hr.1 hr.2.2;have hm:=hr.2.2.1;exact ⟨⟨wf_i (z:=c.a.me) (by omega) (by omega),wf_i (z:=c.a.rv) (by omega) (by omega),wf_i (z:=c.a.nx+1) (by omega) (by omega),wf_i (z:=v.mo) (by omega) (by omega),wf_i (z:=(acc.rolled c.a v.mo).bo) (by omega) (by omega),wf_i (z:=v.mo) (by omega) (by omega)⟩,rfl⟩
 ·rcases h with ⟨_,_,_,e⟩ | ⟨_,_,_,_,e⟩ | ⟨_,_,_,_,_,e⟩ | ⟨hr,_,_,rfl,_,_⟩
  ·cases e
  ·cases e
  ·cases e
  ·obtain ⟨_,⟨a1,a2⟩,⟨b1,b2⟩,⟨c1,c2⟩,⟨d1,d2⟩,⟨e1,e2⟩,f1,f2⟩:=hr;exact ⟨⟨wf_i (z:=c.a.me) (by omega) (by omega),wf_i (z:=c.a.rv+1) (by omega) (by omega),wf_i (z:=c.a.nx+1) (by omega) (by omega),wf_i (z:=c.a.mo) (by omega) (by omega),wf_i (z:=c.a.bo) (by omega) (by omega),wf_i (z:=c.a.fr) (by omega) (by omega)⟩,rfl⟩
theorem may_un {v:Ev} (h:EMay v):0≤v.un∧v.un≤2097151:=by
 unfold EMay at h;omega
theorem hap_wf {t:Tm} {c c':Cm} {v:Ev} (h:HapIs t c v c' 0) (hm:EMay v):wf6 c'.a∧c'.a.me=c.a.me:=by
 rcases h with ⟨_,b,q,r⟩ | ⟨_,b,l,e,q,r⟩
 ·rw [r rfl];exact owe_wf q
 ·rcases r with ⟨x,y⟩ | ⟨_,_,y⟩ | ⟨x,y,_,rfl⟩
  ·exact absurd y.symm x
  ·cases y
  ·subst x;subst y;exact tells_wf q (may_un hm).2 (may_un hm).1
theorem getD_in {bk:List Cm} {j:Nat} (h:j<bk.length):bk.getD j cm0∈bk:=getD_mem h
theorem AWf.set {bk:List Cm} {k:Nat} {c:Cm} (h:AWf bk) (hc:wf6 c.a):AWf (bk.set k c):=fun x hx=>by
 rcases List.mem_or_eq_of_mem_set hx with h' | rfl
 ·exact h x h'
 ·exact hc
theorem AWf.snoc {bk:List Cm} {c:Cm} (h:AWf bk) (hc:wf6 c.a):AWf (bk++[c]):=fun x hx=>by
 rcases List.mem_append.1 hx with h' | h'
 ·exact h x h'
 ·rw [List.mem_singleton.1 h'];exact hc
def wrc (V:Value) (t:Tm) (pt:Option Addr) (lt ct B:Nat):Array Value:=#[V,.slice pt lt ct,zI t.ff,zI t.fb,zI t.db,zI t.al,.map (some B)]
structure Kp (base gW B:Nat) (w w':World):Prop where
 os:w'.os=w.os
 tape:w'.tape=w.tape
 output:w'.output=w.output
 size:w.heap.size≤w'.heap.size
 block:∀ k,k<base→k≠gW→k≠B→w'.heap[k]?=w.heap[k]?
theorem Kp.refl (base gW B:Nat) (w:World):Kp base gW B w w:=⟨rfl,rfl,rfl,Nat.le_refl _,fun _ _ _ _=>rfl⟩
theorem Kp.trans {base gW B:Nat} {a b c:World} (h:Kp base gW B a b) (k:Kp base gW B b c):Kp base gW B a c:=⟨k.os.trans h.os,k.tape.trans h.tape,k.output.trans h.output,Nat.le_trans h.size k.size,fun i h1 h2 h3=>(k.block i h1 h2 h3).trans (h.block i h1 h2 h3)⟩
theorem Kp.of {base gW B n:Nat} {a b:World} (h:Below n a b) (hn:base≤n):Kp base gW B a b:=⟨h.os,h.tape,h.output,h.size,fun i h1 _ _=>h.block i (by omega)⟩
theorem Kp.bel {base gW B n:Nat} {a b c:World} (k:Kp base gW B b c) (h:Below n a b) (hn:n≤base) (h1:n≤gW) (h2:n≤B):Below n a c:=⟨k.os.trans h.os,k.tape.trans h.tape,k.output.trans h.output,Nat.le_trans h.size k.size,fun i hi=>(k.block i (by omega) (by omega) (by omega)).trans (h.block i hi)⟩
theorem Kp.keep {base gW B G:Nat} {a b:World} {cs:Array Value} {t:TypeId} (k:Kp base gW B a b) (h:Blk a G cs t) (h0:G<base) (h1:G≠gW) (h2:G≠B):Blk b G cs t:=by
 unfold Blk at *;rw [k.block G h0 h1 h2];exact h
theorem Kp.upd {base gW B g:Nat} {a b:World} {cs:Array Value} {t:TypeId} (hU:Upd a b g cs t) (hg:base≤g∨g=gW):Kp base gW B a b:=by
 have h:=hU.bel 0 a (Nat.zero_le _) (Below.refl _ _);exact ⟨h.os,h.tape,h.output,h.size,fun k h1 h2 _=>hU.oth k (by omega)⟩
theorem Kp.grown {base gW B:Nat} {a b:World} {own:Option Nat} (hg:a.grownBy b own) (hs:base≤a.heap.size) (ho:∀ g,own=some g→base≤g):Kp base gW B a b:=⟨hg.os,hg.tape,hg.output,hg.size,fun k h1 _ _=>hg.block k (by omega) (fun e=>by have:=ho k e.symm;omega)⟩
structure Wr (w0:World) (base gW B:Nat) (t:Tm) (pt:Option Addr) (lt ct:Nat) (V:Value) (xs:List Cu) (bk:List Cm) (w:World):Prop where
 blk:Blk w gW (wrc V t pt lt ct B) 113
 mp:MpI w B (mes bk)
 hold:Holds w base V xs bk
 gw:gW<base
 gb:B<base
 ne:gW≠B
 n0:w0.heap.size≤gW
 n1:w0.heap.size≤B
 sz:base≤w.heap.size
 bel:Below w0.heap.size w0 w
 few:Small bk 120
 wf:AWf bk
theorem Wr.next {w0:World} {base gW B:Nat} {t:Tm} {pt:Option Addr} {lt ct:Nat} {V:Value} {xs:List Cu} {bk:List Cm} {w w':World} (h:Wr w0 base gW B t pt lt ct V xs bk w) (hb:Below w.heap.size w w'):Wr w0 base gW B t pt lt ct V xs bk w':=
 ⟨h.blk.next hb,h.mp.below hb,h.hold.next hb,h.gw,h.gb,h.ne,h.n0,h.n1,Nat.le_trans h.sz hb.size,h.bel.trans (hb.mono h.bel.size),h.few,h.wf⟩
theorem Wr.kp {w0:World} {base gW B:Nat} {t:Tm} {pt:Option Addr} {lt ct:Nat} {V:Value} {xs:List Cu} {bk:List Cm} {w w':World} (h:Wr w0 base gW B t pt lt ct V xs bk w) (hb:Below w.heap.size w w'):Kp base gW B w w':= .of hb h.sz
def WPost (w0:World) (base gW B:Nat) (t:Tm) (pt:Option Addr) (lt ct:Nat) (R:List Cm→Int→Prop) (w:World) (e:Ending) (w':World):Prop:=
 Kp base gW B w w'∧((∃ V xs bk',e = .returned (.tuple #[])∧R bk' 0∧(Small bk' 120→Wr w0 base gW B t pt lt ct V xs bk' w'))∨∃ f bk',f≠0∧e = .panicked (thrown f)∧R bk' f)
theorem WPost.back {w0:World} {base gW B:Nat} {t:Tm} {pt:Option Addr} {lt ct:Nat} {R R':List Cm→Int→Prop} {w1 w:World} {e:Ending} {w':World} (h:WPost w0 base gW B t pt lt ct R w e w') (hk:Kp base gW B w1 w) (hR:∀ b f,R b f→R' b f):WPost w0 base gW B t pt lt ct R' w1 e w':=by
 refine ⟨hk.trans h.1,?_⟩;rcases h.2 with ⟨V,xs,bk',h1,h2,h3⟩ | ⟨f,bk',h1,h2,h3⟩
 ·exact .inl ⟨V,xs,bk',h1,hR _ _ h2,h3⟩
 ·exact .inr ⟨f,bk',h1,h2,hR _ _ h3⟩
theorem rowD_same {w w':World} {a:Option Addr} {n:Nat} {zs:List tar.Du} (h:tar.RowD w a n zs) (he:0<n→∀ x,a=some x→w'.heap[x.block]?=w.heap[x.block]?):tar.RowD w' a n zs:=by
 refine ⟨h.1,?_⟩;rcases h.2 with h0 | ⟨b,off,rfl,hc⟩
 ·exact .inl h0
 ·refine .inr ⟨b,off,rfl,fun i hi=>?_⟩;have h1:=hc i hi;have hb:w'.heap[b]?=w.heap[b]?:=he (by omega) _ rfl;have e:∀ o,w'.cell? ⟨b,o,none⟩=w.cell? ⟨b,o,none⟩:=fun o=>by simp [World.cell?,hb]
  rw [e,e];exact h1
theorem came_same {w w':World} {a:Option Addr} {n cap:Nat} {zs:List tar.Du} (h:tar.Came w a n cap zs) (he:0<n→∀ x,a=some x→w'.heap[x.block]?=w.heap[x.block]?):tar.Came w' a n cap zs:=⟨rowD_same h.row he,h.nil,h.room,h.bytes,h.wf⟩
theorem lo_same {w w':World} {base:Nat} {v:Value} {l:List So} (h:Lo w base v l) (he:∀ g,v.ownBlock=some g→w'.heap[g]?=w.heap[g]?):Lo w' base v l:=by
 refine ⟨h.1,?_⟩;rcases h.2 with hn | ⟨g',cap,cur,hv,hb,hc,rest⟩
 ·exact .inl hn
 ·exact .inr ⟨g',cap,cur,hv,hb,by rw [he g' (by rw [hv];rfl)];exact hc,rest⟩
theorem Has.same {w w':World} {base:Nat} {x:Cu} {c:Cm} (h:Has w base x c) (h1:∀ g,x.sold.ownBlock=some g→w'.heap[g]?=w.heap[g]?) (h2:0<x.dn→∀ p,x.dp=some p→w'.heap[p.block]?=w.heap[p.block]?):Has w' base x c:=⟨h.num,⟨came_same h.ds.came h2,h.ds.new⟩,lo_same h.so h1⟩
theorem Holds.put2 {w w4:World} {base:Nat} {V:Value} {xs:List Cu} {bk:List Cm} {k:Nat} {x':Cu} {c':Cm} (h:Holds w base V xs bk) (hk:k<xs.length)
  (hO:∀ g,g<w.heap.size→V.ownBlock≠some g→(xs.getD k cu0).sold.ownBlock≠some g→w4.heap[g]?=w.heap[g]?) (has:Has w4 base x' c')
  (own:∀ g,x'.sold.ownBlock=some g→(xs.getD k cu0).sold.ownBlock=some g∨w.heap.size≤g) (new:0<x'.dn→∀ p,x'.dp=some p→w.heap.size≤p.block) (self:∀ g,x'.sold.ownBlock=some g→0<x'.dn→∀ p,x'.dp=some p→p.block≠g)
  (hr:Lc w4 base V (xs.set k x')):Holds w4 base V (xs.set k x') (bk.set k c'):=by
 have hkb:k<bk.length:=by rw [← h.len];exact hk
 have lt1:∀ i,i<xs.length→∀ g,(xs.getD i cu0).sold.ownBlock=some g→g<w.heap.size:=fun i hi g hgg=>(World.ownsRow.lt (h.has i hi).so g hgg).2
 have lt2:∀ i,i<xs.length→0<(xs.getD i cu0).dn→∀ p,(xs.getD i cu0).dp=some p→p.block<w.heap.size:=fun i hi hn p hp=>by
  obtain ⟨b,off,e,lb,_⟩:=(h.has i hi).ds.came.row.at hn;rw [hp] at e;rw [Option.some.inj e];exact lb
 have ltV:∀ g,V.ownBlock=some g→g<w.heap.size:=fun g hgg=>(World.ownsRow.lt h.row g hgg).2
 have offx:Off x' V.ownBlock:=⟨fun g hgg q=>by
  rcases own g hgg with e | e
  ·exact (h.off k hk).1 g e q
  ·have:=ltV g q;omega,fun hn p hp q=>by
  have h1:=new hn p hp;have h2:=ltV p.block q.symm
  omega⟩
 have apx:∀ i,i<xs.length→i≠k→Apart (xs.getD i cu0) x':=fun i hi hik=>by
  refine ⟨fun g h1 h2=>?_,fun g h1 hn p hp q=>?_,fun g h1 hn p hp q=>?_⟩
  ·rcases own g h2 with e | e
   ·exact (h.apart i k hi hk hik).1 g h1 e
   ·have:=lt1 i hi g h1;omega
  ·have h3:=new hn p hp;have h4:=lt1 i hi g h1;omega
  ·rcases own g h1 with e | e
   ·exact (h.apart i k hi hk hik).2.2 g e hn p hp q
   ·have:=lt2 i hi hn p hp;omega
 refine ⟨hr,by rw [List.length_set,List.length_set,h.len],fun i hi=>?_,fun i hi=>?_,fun i hi=>?_,fun i j hi hj hij=>?_⟩
 all_goals rw [List.length_set] at hi
 ·rw [getD_put xs x' cu0 k i hk,getD_put bk c' cm0 k i hkb];by_cases q:i=k
  ·rw [if_pos q,if_pos q];exact has
  ·rw [if_neg q,if_neg q];have ap:=h.apart i k hi hk q;refine (h.has i hi).same (fun g hg=>hO g (lt1 i hi g hg) (fun e=>(h.off i hi).1 g hg e) (fun e=>ap.1 g hg e)) (fun hn p hp=>hO p.block (lt2 i hi hn p hp) (fun e=>(h.off i hi).2 hn p hp e.symm) (fun e=>ap.2.2 p.block e hn p hp rfl))
 ·rw [getD_put xs x' cu0 k i hk];by_cases q:i=k
  ·rw [if_pos q];exact offx
  ·rw [if_neg q];exact h.off i hi
 ·rw [getD_put xs x' cu0 k i hk];by_cases q:i=k
  ·rw [if_pos q];exact self
  ·rw [if_neg q];exact h.self i hi
 ·rw [List.length_set] at hj;rw [getD_put xs x' cu0 k i hk,getD_put xs x' cu0 k j hk];by_cases q:i=k <;> by_cases q':j=k
  ·omega
  ·rw [if_pos q,if_neg q'];exact (apx j hj q').symm
  ·rw [if_neg q,if_pos q'];exact apx i hi q
  ·rw [if_neg q,if_neg q'];exact h.apart i j hi hj hij
theorem lc_put2 {w W:World} {base g n cap k:Nat} {xs:List Cu} {x':Cu} {cur:Array Value} (h:Lc w base (.slice (some ⟨g,0,none⟩) n cap) xs) (hB:Blk w g cur 54) (hk:k<xs.length) (hW:Blk W g (putAll cur (k*8) x'.cs) 54):Lc W base (.slice (some ⟨g,0,none⟩) n cap) (xs.set k x'):=by
 unfold Lc at *;rw [List.length_set];refine ⟨by rw [cellsC_len,List.length_set],?_⟩;rcases h.2 with ⟨h',_⟩ | ⟨g',cap',cur',hv,hg,hc,hn,hm,hz,ht⟩
 ·cases h'
 ·simp only [Value.slice.injEq,Option.some.injEq,Addr.mk.injEq,and_true] at hv;obtain ⟨rfl,rfl,rfl⟩:=hv
  have e:cur'=cur:=by
   have h1:w.heap[g]?=some (.cells cur 54 (0,0)):=hB;rw [h1] at hc;injection hc with hc
   injection hc with hc
   exact hc.symm
  subst e;refine .inr ⟨g,cap,_,rfl,hg,hW,hn,hm,by rw [putAll_size];exact hz,?_⟩;apply List.ext_getElem?;intro j;have h8:x'.cs.length=8:=rfl;rw [cellsC_get,List.length_set,getD_put xs x' cu0 k (j / 8) hk];by_cases hj:j<xs.length*8
  ·rw [if_pos hj,List.getElem?_take_of_lt hj,Array.getElem?_toList,putAll_get _ _ _ _ (by rw [hz,h8];omega),h8];by_cases h1:k*8≤j∧j<k*8+8
   ·rw [if_pos h1,if_pos (by omega),show j - k*8=j % 8 by omega]
   ·rw [if_neg h1,if_neg (by omega)];have h2:cur'.toList[j]?=(cellsC xs)[j]?:=by rw [← ht,List.getElem?_take_of_lt hj]
    rw [Array.getElem?_toList] at h2;rw [h2,cellsC_get,if_pos hj]
  ·rw [if_neg hj,List.getElem?_eq_none (by rw [List.length_take];omega)]
theorem putAll_more (cs:Array Value):∀ (l:List Value) (o:Nat) (v:Value),(putAll cs o l).setIfInBounds (o+l.length) v=putAll cs o (l++[v])
 | [],o,v=>rfl
 | x :: l,o,v=>by
  have:=putAll_more (cs.setIfInBounds o x) l (o+1) v;rw [List.cons_append,putAll,putAll,← this,List.length_cons,show o+(l.length+1)=o+1+l.length by omega]
theorem at_cust {w:World} {base n cap k:Nat} {a:Option Addr} {xs:List Cu} (h:Lc w base (.slice a n cap) xs) (hk:k<xs.length):∃ g cur,a=some ⟨g,0,none⟩∧base≤g∧Blk w g cur 54∧k*8+8≤cur.size∧∀ j,j<8→cur[k*8+j]?=(xs.getD k cu0).cs[j]?:=by
 have hn:xs.length=n:=by
  obtain ⟨a',c',hv,_⟩:=h.row;injection hv with _ e _
  exact e.symm
 obtain ⟨g,cur,e1,e2,e3,e4,e5⟩:=lc_lies h (by omega);exact ⟨g,cur,e1,e2,e3,by omega,fun j hj=>e5 k j hk hj⟩
end book
end Go.Proofs.YtnpblpbohcegoaaGreatDoor
