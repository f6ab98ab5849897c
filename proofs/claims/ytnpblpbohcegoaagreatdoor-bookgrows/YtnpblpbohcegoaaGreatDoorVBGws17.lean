import Derived.Test.YtnpblpbohcegoaaGreatDoorVBGws10
import Derived.Test.YtnpblpbohcegoaaGreatDoorVBGws12
set_option linter.unusedVariables false
set_option linter.unusedSimpArgs false
set_option maxHeartbeats 4000000
set_option maxRecDepth 100000
namespace Go.Proofs.YtnpblpbohcegoaaGreatDoor
namespace disk
open Go.RowKit cell
def Wds (c:List Int):Prop:=∀ x∈c,0≤x∧x<4294967296
theorem wds_zero (n:Nat):Wds (List.replicate n 0):=fun x hx=>by
 rw [(List.mem_replicate.1 hx).2];decide
theorem wds_at {c:List Int} (h:Wds c) (j:Nat):0≤c.getD j 0∧c.getD j 0<4294967296:=by
 by_cases hj:j<c.length
 ·have e:c.getD j 0=c[j]:=by simp [List.getD,List.getElem?_eq_getElem hj]
  rw [e];exact h _ (List.getElem_mem hj)
 ·have e:c.getD j 0=0:=by simp [List.getD,List.getElem?_eq_none (Nat.le_of_not_lt hj)]
  rw [e];decide
theorem wds_set {c:List Int} (h:Wds c) (k:Nat) (x:Int) (hx:0≤x∧x<4294967296):Wds (c.set k x):=fun y hy=>by
 rcases List.mem_or_eq_of_mem_set hy with hy | rfl
 ·exact h y hy
 ·exact hx
def WrsOk (l:List Wr):Prop:=∀ e∈l,0≤e.d∧e.d<4294967296
theorem wds_wrt {c:List Int} (h:Wds c) (l:List Wr) (hl:WrsOk l):Wds (wrt c l):=by
 induction l generalizing c with
 | nil=>exact h
 | cons e l ih=>exact ih (wds_set h _ _ (hl e List.mem_cons_self)) fun x hx=>hl x (List.mem_cons_of_mem _ hx)
theorem wrs_put {r:List Int} (hr:Wds r) (a k:Nat):WrsOk (putW a r k):=by
 induction k with
 | zero=>intro e he;cases he
 | succ k ih=>
  intro e he;rcases List.mem_append.1 he with h | h
  ·exact ih e h
  ·rw [List.mem_singleton.1 h];exact wds_at hr k
theorem wrs_app {c r:List Int} (hr:Wds r) (hm:RMay r) (a:Nat):WrsOk (appW c a r):=by
 intro e he;unfold appW at he;rcases List.mem_append.1 he with h | h
 ·exact wrs_put hr a _ e h
 ·rcases List.mem_append.1 h with h | h
  ·unfold zeroW at h;split at h
   ·rw [List.mem_singleton.1 h];exact ⟨Int.le_refl _,by show (0:Int)<4294967296;decide⟩
   ·cases h
  ·rw [List.mem_singleton.1 h];have:=hm.2;exact ⟨by show (0:Int)≤(r.length:Int);omega,by show (r.length:Int)<_;omega⟩
theorem wrs_take {l:List Wr} (h:WrsOk l) (k:Nat):WrsOk (l.take k):=fun e he=>h e (List.mem_of_mem_take he)
theorem put_in {r:List Int} (a k n:Nat) (hn:a+k<n):cell.allN n (putW a r k)=true:=by
 induction k with
 | zero=>rfl
 | succ k ih=>exact cell.allN_snoc (ih (by omega)) ⟨by show (0:Int)≤((a+k+1:Nat):Int);omega,by show ((a+k+1:Nat):Int)<(n:Int);omega⟩
theorem app_in (c r:List Int) (a:Nat) (h:a+r.length<c.length):cell.allN c.length (appW c a r)=true:=by
 unfold appW;rw [← List.append_assoc];refine cell.allN_snoc ?_ ⟨by show (0:Int)≤(a:Int);omega,by show (a:Int)<(c.length:Int);omega⟩;unfold zeroW;split
 ·exact cell.allN_snoc (put_in a _ _ h) ⟨by show (0:Int)≤((a+r.length+1:Nat):Int);omega,by show ((a+r.length+1:Nat):Int)<(c.length:Int);omega⟩
 ·rw [List.append_nil];exact put_in a _ _ h
def Room (sl:List Sli):Prop:=∀ s∈sl,s.n≤s.c∧s.n≤20
theorem Room.at {sl:List Sli} (h:Room sl) (i:Nat) (hi:i<sl.length):(sl.getD i sl0).n≤(sl.getD i sl0).c∧(sl.getD i sl0).n≤20:=by
 have e:sl.getD i sl0=sl[i]:=by simp [List.getD,List.getElem?_eq_getElem hi]
 rw [e];exact h _ (List.getElem_mem hi)
end disk
namespace tar
open check (pick picked_any pick_nonneg pick_lt)
open Go.RowKit
theorem stepT2:PairT Tryz.prog 198 22:=⟨by kernel_rfl,Tryz.underlying22⟩
def GaveT (w:World) (e:Ending) (w':World):Prop:=∃ v ls,e = .returned v∧Right ls∧Ld 198 w' w.heap.size v ls∧Below w.heap.size w w'
theorem stepped_any (a:Option Addr) (len cap:Nat) (rs:List Du) (w:World) (h:Came w a len cap rs):Calls Tryz.prog 60 #[.slice a len cap] w fun e w'=>GaveT w e w':=by
 have HM:Hid (Came w a len cap rs):=h;have hlm:len≤9223372036854775807:=by have:=h.bytes;omega
 clear h;go_enter Tryz.func60,Tryz.ntmps60;go_wp2_with fail;go_loopw [3,4,5] (fun u v z wr=>∃ (k:Nat) (V:Value) (Z:List Du) (up:Int),k≤len∧k≤7∧z=zI (k:Int)∧v=zI up∧V=u∧Grow Z k up∧Ld 198 wr w.heap.size V Z∧Below w.heap.size w wr) (fun _ _ z _=>7 - (intOf z).toNat)
 case atStart=>exact ⟨0,_,[],0,Nat.zero_le _,by decide,rfl,rfl,rfl,Grow.zero,Ld.zero _ _ _,Below.refl _ _⟩
 case round=>
  obtain ⟨k,V,Z,up,hk,hk7,rfl,rfl,hV,hg,hZ,hb⟩:=hrel;subst hV;have HB:Hid (Below w.heap.size w wr):=hb;have HZ:Hid (Ld 198 wr w.heap.size V Z):=hZ;have HG:Hid (Grow Z k up):=hg;have hu0:=hg.low;have hu1:=hg.top;have hzl:Z.length≤1000000:=by rw [hg.len];omega
  clear hZ hg;by_cases hlt:k<len∧k<7
  ·obtain ⟨hl1,hl2⟩:=hlt;have hd1:decide ((k:Int)<(len:Int))=true:=by simp;omega
   have hd2:decide ((k:Int)<7)=true:=by simp;omega
   obtain ⟨b,off,rfl,hbl,hc⟩:=HM.o.row.at (by omega)
   have hw1:=(HM.o.wf (rs.getD k du0) (by
    have:k<rs.length:=by rw [HM.o.row.1];exact hl1
    simp [List.getD,List.getElem?_eq_getElem this]))
   have c0:wr.cell? ⟨b,off+k*2,none⟩=some (zI (rs.getD k du0).a):=(hb.cell (p:=⟨b,off+k*2,none⟩) hbl).trans (hc k hl1).1;have c1:wr.cell? ⟨b,off+k*2+1,none⟩=some (zI (rs.getD k du0).b):=(hb.cell (p:=⟨b,off+k*2+1,none⟩) hbl).trans (hc k hl1).2;have HP1:Hid (∀ W,Calls Tryz.prog 18 #[zI (rs.getD k du0).a,zI 1000000] W fun e w'=>e = .returned (zI (pick (rs.getD k du0).a 1000000))∧w'=W):=fun W=>picked_any _ _ W hw1.1 (by decide) (by decide);have HP2:Hid (∀ W,Calls Tryz.prog 18 #[zI (rs.getD k du0).b,zI 100000] W fun e w'=>e = .returned (zI (pick (rs.getD k du0).b 100000))∧w'=W):=fun W=>picked_any _ _ W hw1.2 (by decide) (by decide);have q1:=pick_nonneg (rs.getD k du0).a 1000000 (by decide);have q2:=pick_lt (rs.getD k du0).a 1000000 (by decide);have q3:=pick_nonneg (rs.getD k du0).b 100000 (by decide);have q4:=pick_lt (rs.getD k du0).b 100000 (by decide);clear hc hb hw1;generalize pick (rs.getD k du0).a 1000000=d at *;generalize pick (rs.getD k du0).b 100000=p at *;generalize (rs.getD k du0).a=x at *;generalize (rs.getD k du0).b=y at *;have HGN:Hid (Grow (Z++[⟨up+(1+d),1+p⟩]) (k+1) (up+(1+d))):=HG.o.step (by omega) (by omega) (by omega) (by omega);go_wp2_with fail;refine (HP1.o _).mono ?_;rintro e w2 ⟨rfl,hw2⟩;subst hw2;go_wp2_with fail;refine (HP2.o _).mono ?_;rintro e w2 ⟨rfl,hw2⟩;subst hw2;have HBA:Hid (Below w.heap.size w (w2.alloc (.cells #[zI (up+(1+d)),zI (1+p)] 198))):=HB.o.alloc HB.o.size _;have HZA:Hid (Ld 198 (w2.alloc (.cells #[zI (up+(1+d)),zI (1+p)] 198)) w.heap.size V Z):=HZ.o.alloc _;have HCA:Hid ((w2.alloc (.cells #[zI (up+(1+d)),zI (1+p)] 198)).cell? ⟨w2.heap.size,0,none⟩=some (zI (up+(1+d)))∧(w2.alloc (.cells #[zI (up+(1+d)),zI (1+p)] 198)).cell? ⟨w2.heap.size,1,none⟩=some (zI (1+p))):=⟨(Blk.new w2 _ _).cell 0,(Blk.new w2 _ _).cell 1⟩
   go_wp2_with (first
    | (at_builtin;refine wp_pair stepT2 rfl _ _ rfl w.heap.size w2.heap.size V Z ⟨up+(1+d),1+p⟩ rfl rfl HZA.o HCA.o hzl HBA.o.size ?_)
    | fail)
   intro v3 w3 h3 hg3;have HB3:Hid (Below w.heap.size w w3):=own_bel HZA.o hg3 HBA.o (Nat.le_refl _) HBA.o.size;have H3:Hid (Ld 198 w3 w.heap.size v3 (Z++[⟨up+(1+d),1+p⟩])):=h3;clear h3 hg3 HZA HCA HBA HZ c0 c1;go_wp2_with fail;go_roundw
   case rel=>exact ⟨k+1,v3,_,_,by omega,by omega,by go_num,rfl,by first | rfl | trivial,HGN.o,H3.o,HB3.o⟩
   case measure=>simp [intOf];omega
  ·have HRT:Hid (∀ p,1≤p→p≤100000→Right (Z++[⟨10000000,p⟩])):=fun p p1 p2=>HG.o.right hk7 p1 p2;have hq:Int.tmod up 100000=up % 100000:=Int.tmod_eq_emod_of_nonneg hu0;have r0:0≤up % 100000:=by omega
   have r1:up % 100000<100000:=by omega
   generalize up % 100000=r at *;have HBA:Hid (Below w.heap.size w (wr.alloc (.cells #[zI 10000000,zI (1+r)] 198))):=HB.o.alloc HB.o.size _;have HZA:Hid (Ld 198 (wr.alloc (.cells #[zI 10000000,zI (1+r)] 198)) w.heap.size V Z):=HZ.o.alloc _;have HCA:Hid ((wr.alloc (.cells #[zI 10000000,zI (1+r)] 198)).cell? ⟨wr.heap.size,0,none⟩=some (zI 10000000)∧(wr.alloc (.cells #[zI 10000000,zI (1+r)] 198)).cell? ⟨wr.heap.size,1,none⟩=some (zI (1+r))):=⟨(Blk.new wr _ _).cell 0,(Blk.new wr _ _).cell 1⟩
   have HRR:Hid (Right (Z++[⟨10000000,1+r⟩])):=HRT.o _ (by omega) (by omega);clear hb HRT;by_cases hl1:k<len
   ·have hd1:decide ((k:Int)<(len:Int))=true:=by simp;omega
    obtain rfl:k=7:=by omega
    clear hlt hk7
    go_wp2_with (first
     | (at_builtin;refine wp_pair stepT2 rfl _ _ rfl w.heap.size wr.heap.size V Z ⟨10000000,1+r⟩ rfl rfl HZA.o HCA.o hzl HBA.o.size ?_)
     | fail)
    intro v3 w3 h3 hg3;have HB3:Hid (Below w.heap.size w w3):=own_bel HZA.o hg3 HBA.o (Nat.le_refl _) HBA.o.size;have H3:Hid (Ld 198 w3 w.heap.size v3 (Z++[⟨10000000,1+r⟩])):=h3;clear h3 hg3 HZA HCA HBA HZ;go_wp2_with fail;go_ret;exact ⟨v3,_,rfl,HRR.o,H3.o,HB3.o⟩
   ·have hd1:decide ((k:Int)<(len:Int))=false:=by simp;omega
    clear hlt
    go_wp2_with (first
     | (at_builtin;refine wp_pair stepT2 rfl _ _ rfl w.heap.size wr.heap.size V Z ⟨10000000,1+r⟩ rfl rfl HZA.o HCA.o hzl HBA.o.size ?_)
     | fail)
    intro v3 w3 h3 hg3;have HB3:Hid (Below w.heap.size w w3):=own_bel HZA.o hg3 HBA.o (Nat.le_refl _) HBA.o.size;have H3:Hid (Ld 198 w3 w.heap.size v3 (Z++[⟨10000000,1+r⟩])):=h3;clear h3 hg3 HZA HCA HBA HZ;go_wp2_with fail;go_ret;exact ⟨v3,_,rfl,HRR.o,H3.o,HB3.o⟩
end tar
namespace book
open Go.RowKit
open acc (Ac Tm Bi APost BPost TFault TRight OpenIs)
def Ev.cl (x:Ev):List Value:=[zI x.kd,zI x.me,zI x.mo,zI x.id,zI x.te,zI x.de,zI x.fe,zI x.pr,zI x.ch,zI x.un,zI x.tg,zI x.ow,zI x.bp]
def RowE (w:World) (a:Option Addr) (n:Nat) (l:List Ev):Prop:=l.length=n∧(n=0∨∃ b off,a=some ⟨b,off,none⟩∧b<w.heap.size∧∀ i j,i<n→j<13→w.cell? ⟨b,off+i*13+j,none⟩=(l.getD i ev0).cl[j]?)
theorem putAll_get (vs:List Value):∀ (o:Nat) (cs:Array Value) (j:Nat),o+vs.length≤cs.size→(putAll cs o vs)[j]?=if o≤j∧j<o+vs.length then vs[j - o]? else cs[j]?:=by
 induction vs with
 | nil=>intro o cs j _;rw [if_neg (by simp only [List.length_nil];omega)];rfl
 | cons v r ih=>
  intro o cs j h;simp only [List.length_cons] at h;rw [putAll,ih (o+1) _ j (by simp;omega)];by_cases h1:o+1≤j∧j<o+1+r.length
  ·rw [if_pos h1,if_pos (by simp;omega),show j - o=(j - (o+1))+1 by omega,List.getElem?_cons_succ]
  ·rw [if_neg h1];by_cases h2:j=o
   ·subst h2;rw [if_pos (by simp only [List.length_cons];omega),Nat.sub_self];simp [show j<cs.size by omega]
   ·rw [if_neg (by simp;omega),Array.getElem?_setIfInBounds_ne (by omega)]
theorem putAll_size (vs:List Value):∀ (o:Nat) (cs:Array Value),(putAll cs o vs).size=cs.size:=by
 induction vs with
 | nil=>intro o cs;rfl
 | cons v r ih=>intro o cs;rw [putAll,ih];simp
theorem cellsC_get (xs:List Cu) (j:Nat):(cellsC xs)[j]?=if j<xs.length*8 then (xs.getD (j / 8) cu0).cs[j % 8]? else none:=by
 by_cases h:j<xs.length*8
 ·rw [if_pos h];have:=cellsC_at xs (j / 8) (j % 8) (by omega) (by omega);rw [show j / 8*8+j % 8=j by omega] at this;exact this
 ·rw [if_neg h,List.getElem?_eq_none (by rw [cellsC_len];omega)]
theorem lc_lies {w:World} {base n cap:Nat} {a:Option Addr} {xs:List Cu} (h:Lc w base (.slice a n cap) xs) (hn:0<n):∃ g cur,a=some ⟨g,0,none⟩∧base≤g∧Blk w g cur 54∧n*8≤cur.size∧∀ i j,i<xs.length→j<8→cur[i*8+j]?=(xs.getD i cu0).cs[j]?:=by
 rcases h.2 with ⟨h',h0⟩ | ⟨g,cap',cur,hv,hg,hc,hle,hm,hz,ht⟩
 ·simp only [Value.slice.injEq] at h';omega
 ·simp only [Value.slice.injEq] at hv;obtain ⟨rfl,rfl,rfl⟩:=hv;refine ⟨g,cur,rfl,hg,hc,by omega,fun i j hi hj=>?_⟩;have h1:cur.toList[i*8+j]?=(cellsC xs)[i*8+j]?:=by rw [← ht,List.getElem?_take_of_lt (by omega)]
  rw [Array.getElem?_toList] at h1;rw [h1];exact cellsC_at xs i j hi hj
theorem cuA_of {x:Cu} {a:Ac} (h:Nums x a):∃ dp dn dc sp sn sc,x=⟨a.me,a.rv,a.nx,a.mo,a.bo,a.fr,dp,dn,dc,sp,sn,sc⟩:=by
 cases x;obtain ⟨h1,h2,h3,h4,h5,h6⟩:=h;simp only at h1 h2 h3 h4 h5 h6;subst h1 h2 h3 h4 h5 h6;exact ⟨_,_,_,_,_,_,rfl⟩
open Go.ChangeMaps (setBlock heap_setBlock_same heap_setBlock_other)
def entI (m:Int) (i:Nat):MapEntry:={ key:=zI m,val:=zI (i:Int),born:=i }
def entsI:List Int→Nat→List MapEntry
 | [],_=>[]
 | p :: l,i=>entI p i :: entsI l (i+1)
theorem entsI_app (l:List Int) (p:Int) (i:Nat):entsI (l++[p]) i=entsI l i++[entI p (i+l.length)]:=by
 induction l generalizing i with
 | nil=>rfl
 | cons x l ih=>simp only [List.cons_append,entsI,ih,List.length_cons];rw [show i+1+l.length=i+(l.length+1) by omega]
def MpI (w:World) (B:Nat) (l:List Int):Prop:=w.heap[B]?=some (.map (entsI l 0).toArray l.length)
theorem MpI.lt {w:World} {B:Nat} {l:List Int} (h:MpI w B l):B<w.heap.size:=by
 unfold MpI at h;by_cases hh:B<w.heap.size
 ·exact hh
 ·rw [Array.getElem?_eq_none (by omega)] at h;cases h
theorem MpI.below {w w':World} {B:Nat} {l:List Int} (h:MpI w B l) (hb:Below w.heap.size w w'):MpI w' B l:=by
 have hl:=h.lt;unfold MpI at *;rw [hb.block B hl];exact h
theorem MpI.upd {w W:World} {B g:Nat} {cs:Array Value} {t:TypeId} {l:List Int} (h:MpI w B l) (hU:Upd w W g cs t) (hne:B≠g):MpI W B l:=by
 unfold MpI at *;rw [hU.oth B hne];exact h
theorem MpI.new (w:World):MpI (w.alloc (.map #[] 0)) w.heap.size []:=by
 show (w.heap.push _)[w.heap.size]?=_;rw [Array.getElem?_push_size];rfl
def firstI:List Int→Int→Option Nat
 | [],_=>none
 | m :: l,x=>if x=m then some 0 else (firstI l x).map (·+1)
theorem findingI (x:Int):∀ (l:List Int) (i j:Nat),Instr.findNow (.int .i64) (zI x) (entsI l i) j=some ((firstI l x).map fun k=>(j+k,Value.int .i64 ((i+k:Nat):Int)))
 | [],i,j=>rfl
 | m :: l,i,j=>by
  have ih:=findingI x l (i+1) (j+1);unfold firstI;by_cases h:x=m
  ·subst h;simp [entsI,entI,Instr.findNow,Instr.sameNow]
  ·have hb:(x == m)=false:=by simpa using h
   rw [if_neg h];simp only [entsI,entI,Instr.findNow,Instr.sameNow,if_true,hb];rw [ih];cases firstI l x with
   | none=>rfl
   | some k=>simp [show j+1+k=j+(k+1) by omega,show i+1+k=i+(k+1) by omega];omega
theorem zintI (w:World):(zeroValue 3).run Tryz.prog w = .ok (zI 0) w:=by kernel_rfl
theorem chkI (em:Bool) (x:Int) (w:World):(Instr.checkKey em 10000 3 (zI x)).run Tryz.prog w = .ok () w:=by kernel_rfl
theorem keyI (x:Int) (l:List Int) (w:World):(Instr.findKey 3 (zI x) (entsI l 0)).run Tryz.prog w = .ok ((firstI l x).map fun k=>(k,Value.int .i64 (k:Int))) w:=by
 have h:=findingI x l 0 0;simp only [Nat.zero_add] at h;simp [Instr.findKey,run_underlying Tryz.underlying3,Sem.run_bind,h]
theorem lookI_run {w:World} {B:Nat} {l:List Int} (h:MpI w B l) (x:Int) :
  (Instr.lookup 111 (.map (some B)) (zI x) true).run Tryz.prog w = .ok (.tuple #[zI (((firstI l x).getD 0:Nat):Int),.bool (firstI l x).isSome]) w:=by
 have hf:=keyI x l w;cases hl:firstI l x with
 | none=>rw [hl] at hf;simp [Instr.lookup,run_underlying Tryz.underlying111,MapKept.run_getObj_map h,chkI,hf,zintI,Result.andThen,Sem.run_bind]
 | some k=>rw [hl] at hf;simp [Instr.lookup,run_underlying Tryz.underlying111,MapKept.run_getObj_map h,chkI,hf,Result.andThen,Sem.run_bind]
theorem updI_run {w:World} {B:Nat} {l:List Int} (h:MpI w B l) (x:Int) (hn:firstI l x=none) :
  ∃ W,(Instr.mapUpdate 111 (.map (some B)) (zI x) (zI (l.length:Int))).run Tryz.prog w = .ok () W∧MpI W B (l++[x])∧(∀ G,G≠B→W.heap[G]?=w.heap[G]?)∧(∀ B0 w0,B0≤B→Below B0 w0 w→Below B0 w0 W)∧W.heap.size=w.heap.size∧w.grownBy W (some B):=by
 have hf:=keyI x l w;rw [hn] at hf;refine ⟨setBlock w B (.map ((entsI l 0).toArray.push ⟨zI x,zI (l.length:Int),l.length⟩) (l.length+1)),?_,?_,fun G hG=>heap_setBlock_other h _ hG,fun B0 w0 hB hb=>?_,by simp [setBlock],⟨rfl,rfl,rfl,by simp [setBlock],fun k hk hne=>heap_setBlock_other h _ (fun e=>hne (by rw [e]))⟩⟩
 ·simp [Instr.mapUpdate,run_underlying Tryz.underlying111,MapKept.run_getObj_map h,chkI,hf,MapKept.run_setObj_map _ h,Result.andThen,setBlock,Sem.run_bind]
 ·unfold MpI;rw [heap_setBlock_same h,entsI_app,List.length_append];simp [entI]
 ·refine ⟨hb.os,hb.tape,hb.output,by simp [setBlock];exact hb.size,fun k hk=>?_⟩;rw [heap_setBlock_other h _ (by omega)];exact hb.block k hk
theorem mkMapI (w:World):(Instr.makeMap 111 none).run Tryz.prog w = .ok (.map (some w.heap.size)) (w.alloc (.map #[] 0)):=by kernel_rfl
def mes (bk:List Cm):List Int:=bk.map fun c=>c.a.me
theorem mes_len (bk:List Cm):(mes bk).length=bk.length:=by simp [mes]
theorem first_some {bk:List Cm} {x:Int} {k:Nat} (h:firstI (mes bk) x=some k):FirstAt bk x k:=by
 induction bk generalizing k with
 | nil=>cases h
 | cons c bk ih=>
  unfold mes firstI at h;simp only [List.map_cons] at h;by_cases hx:x=c.a.me
  ·rw [if_pos hx] at h;cases h;exact ⟨by simp,hx.symm,fun j hj=>absurd hj (Nat.not_lt_zero _)⟩
  ·rw [if_neg hx] at h;cases hf:firstI (mes bk) x with
   | none=>rw [show firstI (List.map (fun c=>c.a.me) bk) x=none from hf] at h;cases h
   | some m=>
    rw [show firstI (List.map (fun c=>c.a.me) bk) x=some m from hf] at h;cases h;have:=ih hf
    exact ⟨by have:=this.1;simp;omega,this.2.1,fun j hj=>by
     cases j with
     | zero=>exact fun e=>hx e.symm
     | succ j=>exact this.2.2 j (by have:j+1<m+1:=hj;omega)⟩
theorem first_none {bk:List Cm} {x:Int} (h:firstI (mes bk) x=none):NoneAt bk x:=by
 induction bk with
 | nil=>intro j hj;cases hj
 | cons c bk ih=>
  unfold mes firstI at h;simp only [List.map_cons] at h;by_cases hx:x=c.a.me
  ·rw [if_pos hx] at h;cases h
  ·rw [if_neg hx] at h
   have hf:firstI (mes bk) x=none:=by
    cases hf:firstI (mes bk) x with
    | none=>rfl
    | some m=>rw [show firstI (List.map (fun c=>c.a.me) bk) x=some m from hf] at h;cases h
   intro j hj;cases j with
   | zero=>exact fun e=>hx e.symm
   | succ j=>exact ih hf j (by simpa using hj)
theorem mes_set {bk:List Cm} {k:Nat} {c:Cm} (h:c.a.me=(bk.getD k cm0).a.me):mes (bk.set k c)=mes bk:=by
 unfold mes;apply List.ext_getElem?;intro j;simp only [List.getElem?_map,List.getElem?_set];by_cases hj:k=j
 ·subst hj;rw [if_pos rfl];by_cases hl:k<bk.length
  ·rw [if_pos hl,List.getElem?_eq_getElem hl];simp only [Option.map_some,h,List.getD,List.getElem?_eq_getElem hl,Option.getD]
  ·rw [if_neg hl,List.getElem?_eq_none (by omega)]
 ·rw [if_neg hj]
end book
namespace disk
open Go.RowKit cell
theorem make_wr (m:Nat) (h:m≤100000) (w:World):(Instr.makeSlice 76 (zI 0) (zI ((m:Int)+2))).run Tryz.prog w = .ok (.slice (some ⟨w.heap.size,0,none⟩) 0 (m+2)) (w.alloc (.cells (madeCells (Value.agg #[zI 0,.int .u32 0]).cells ((m+2)*2)) 122)):=by
 obtain ⟨i0,hi,hz0,hz1,hz2⟩:=info_parts info_wr;have:=run_make (P:=Tryz.prog) w 76 122 i0 (.agg #[zI 0,.int .u32 0]) Tryz.underlying76 hi hz0 .i64 .i64 0 ((m:Int)+2) (by omega) (by omega) (by rw [hz2];omega) (by omega);rw [hz1,show ((m:Int)+2).toNat=m+2 by omega] at this;exact this
theorem put_next2 (p k:Nat) (r:List Int):putW p r k++[⟨(p:Int)+1+(k:Int),r.getD k 0⟩]=putW p r (k+1):=by
 rw [putW,show ((p+k+1:Nat):Int)=(p:Int)+1+(k:Int) by omega]
theorem app_yes2 {c:List Int} {p k:Nat} {r:List Int} (hk:r.length=k) (h:p+k+1<c.length):putW p r k++[⟨(p:Int)+1+(k:Int),0⟩]++[⟨(p:Int),(k:Int)⟩]=appW c p r:=by
 subst hk;rw [← app_yes h,show (p:Int)+1+(r.length:Int)=(p:Int)+(r.length:Int)+1 by omega]
theorem app_no2 {c:List Int} {p k:Nat} {r:List Int} (hk:r.length=k) (h:¬ p+k+1<c.length):putW p r k++[⟨(p:Int),(k:Int)⟩]=appW c p r:=by
 subst hk;exact app_no h
theorem laying_any (a:Option Addr) (m cap2:Nat) (r c:List Int) (p n:Nat) (w:World) (h:RowU w a m r) (h1:1≤m) (h2:m≤64) (hp:p≤2048) (hn:n≤2048) (hc:c.length=n) :
  Calls Tryz.prog 155 #[.slice a m cap2,zI (p:Int),zI (n:Int)] w fun e w'=>∃ V,e = .returned V∧Lw w' w.heap.size V (appW c p r)∧Below w.heap.size w w':=by
 obtain ⟨b,o,rfl,lb,hcl⟩:=h.at (by omega);have HCL:Hid (∀ W,Below w.heap.size w W→∀ j,j<m→W.cell? ⟨b,o+j,none⟩=some (.int .u32 (r.getD j 0))):=fun W hB j hj=>(hB.cell (p:=⟨b,o+j,none⟩) lb).trans (hcl j hj);have HN:Hid (c.length=n∧r.length=m):=⟨hc,h.1⟩
 have hmk:=make_wr m (by omega) w;have HL0:Hid (Lw (w.alloc (.cells (madeCells (Value.agg #[zI 0,.int .u32 0]).cells ((m+2)*2)) 122)) w.heap.size (.slice (some ⟨w.heap.size,0,none⟩) 0 (m+2)) []):=World.ownsRow_made w _ (m+2) (Nat.le_refl _) (by unfold maxLen;omega) (size_madeCells _ _);have HB0:Hid (Below w.heap.size w (w.alloc (.cells (madeCells (Value.agg #[zI 0,.int .u32 0]).cells ((m+2)*2)) 122))):=(Below.refl _ _).alloc (Nat.le_refl _) _;clear h hc hcl lb;generalize (w.alloc (.cells (madeCells (Value.agg #[zI 0,.int .u32 0]).cells ((m+2)*2)) 122))=W0 at *;go_enter Tryz.func155,Tryz.ntmps155;go_wp2_with fail;clear hmk;go_loopw [7,8,19] (fun v7 v8 v19 wr=>∃ (k:Nat) (V:Value),k≤m∧V=v7∧v8=zI ((p:Int)+1+(k:Int))∧v19=zI (k:Int)∧Lw wr w.heap.size V (putW p r k)∧Below w.heap.size w wr) (fun _ _ v19 _=>m - (intOf v19).toNat)
 case atStart=>exact ⟨0,_,Nat.zero_le _,rfl,by go_num,rfl,HL0.o,HB0.o⟩
 case round=>
  obtain ⟨k,V,hk,hV,rfl,rfl,hlw,hbl⟩:=hrel;subst hV;have HBL:Hid (Below w.heap.size w wr):=hbl;have hs6:(putW p r k).length≤1000000:=by rw [put_len];omega
  have HUA:Hid (∀ o,Lw (wr.alloc o) w.heap.size V (putW p r k)):=fun o=>hlw.alloc o;have HBA:Hid (∀ o,Below w.heap.size w (wr.alloc o)):=fun o=>hbl.alloc hbl.size o;have HSA:Hid (∀ o,w.heap.size≤(wr.alloc o).heap.size):=fun o=>(hbl.alloc hbl.size o).size;clear hlw hbl HL0 HB0;by_cases hkm:k<m
  ·have k2:=HCL.o wr HBL.o k hkm;have HPN:Hid (putW p r k++[⟨(p:Int)+1+(k:Int),r.getD k 0⟩]=putW p r (k+1)):=put_next2 p k r;generalize r.getD k 0=u at *;go_wp2_with (first | (refine wp_write rfl _ _ rfl w.heap.size wr.heap.size V (putW p r k) ⟨(p:Int)+1+(k:Int),u⟩ rfl rfl (HUA.o _) ⟨(Blk.new wr _ _).cell 0,(Blk.new wr _ _).cell 1⟩ hs6 (HSA.o _) ?_;intro v3 w3 h3 hg3;have hb3:=own_bel (HUA.o _) hg3 (HBA.o _) (Nat.le_refl _) (HSA.o _);have H3:Hid (Lw w3 w.heap.size v3 (putW p r k++[(⟨(p:Int)+1+(k:Int),u⟩:Wr)])):=h3;have HB3:Hid (Below w.heap.size w w3):=hb3;clear h3 hg3 hb3) | fail)
   go_roundw
   case rel=>exact ⟨k+1,v3,by omega,rfl,by go_num,by go_num,by rw [← HPN.o];exact H3.o,HB3.o⟩
   case measure=>simp [intOf];omega
  ·obtain rfl:k=m:=by omega
   by_cases hz:(p:Int)+1+(k:Int)<(n:Int)
   ·have HQ:Hid (putW p r k++[⟨(p:Int)+1+(k:Int),0⟩]++[⟨(p:Int),(k:Int)⟩]=appW c p r):=app_yes2 HN.o.2 (by rw [HN.o.1];omega);have hs7:(putW p r k++[(⟨(p:Int)+1+(k:Int),0⟩:Wr)]).length≤1000000:=by rw [List.length_append,put_len];simp;omega
    go_upto_region 11 with (first | (refine wp_write rfl _ _ rfl w.heap.size wr.heap.size V (putW p r k) ⟨(p:Int)+1+(k:Int),0⟩ rfl rfl (HUA.o _) ⟨(Blk.new wr _ _).cell 0,(Blk.new wr _ _).cell 1⟩ hs6 (HSA.o _) ?_;intro v3 w3 h3 hg3;have hb3:=own_bel (HUA.o _) hg3 (HBA.o _) (Nat.le_refl _) (HSA.o _);have H3:Hid (Lw w3 w.heap.size v3 (putW p r k++[(⟨(p:Int)+1+(k:Int),0⟩:Wr)])):=h3;have HB3:Hid (Below w.heap.size w w3):=hb3;clear h3 hg3 hb3) | fail)
    have HU3:Hid (∀ o,Lw (w3.alloc o) w.heap.size v3 (putW p r k++[(⟨(p:Int)+1+(k:Int),0⟩:Wr)])):=fun o=>H3.o.alloc o;have HBB:Hid (∀ o,Below w.heap.size w (w3.alloc o)):=fun o=>HB3.o.alloc HB3.o.size o;have HS3:Hid (∀ o,w.heap.size≤(w3.alloc o).heap.size):=fun o=>(HB3.o.alloc HB3.o.size o).size;clear HUA HBA HSA HBL H3 HB3;go_wp2_with (first | (refine wp_write rfl _ _ rfl w.heap.size w3.heap.size v3 (putW p r k++[(⟨(p:Int)+1+(k:Int),0⟩:Wr)]) ⟨(p:Int),(k:Int)⟩ rfl rfl (HU3.o _) ⟨(Blk.new w3 _ _).cell 0,(Blk.new w3 _ _).cell 1⟩ hs7 (HS3.o _) ?_;intro v4 w4 h3 hg3;have hb3:=own_bel (HU3.o _) hg3 (HBB.o _) (Nat.le_refl _) (HS3.o _);have H4:Hid (Lw w4 w.heap.size v4 (putW p r k++[(⟨(p:Int)+1+(k:Int),0⟩:Wr)]++[(⟨(p:Int),(k:Int)⟩:Wr)])):=h3;have HB4:Hid (Below w.heap.size w w4):=hb3;clear h3 hg3 hb3) | fail)
    go_ret;exact ⟨v4,rfl,by rw [← HQ.o];exact H4.o,HB4.o⟩
   ·have HQ:Hid (putW p r k++[⟨(p:Int),(k:Int)⟩]=appW c p r):=app_no2 HN.o.2 (by rw [HN.o.1];omega);go_wp2_with (first | (refine wp_write rfl _ _ rfl w.heap.size wr.heap.size V (putW p r k) ⟨(p:Int),(k:Int)⟩ rfl rfl (HUA.o _) ⟨(Blk.new wr _ _).cell 0,(Blk.new wr _ _).cell 1⟩ hs6 (HSA.o _) ?_;intro v4 w4 h3 hg3;have hb3:=own_bel (HUA.o _) hg3 (HBA.o _) (Nat.le_refl _) (HSA.o _);have H4:Hid (Lw w4 w.heap.size v4 (putW p r k++[(⟨(p:Int),(k:Int)⟩:Wr)])):=h3;have HB4:Hid (Below w.heap.size w w4):=hb3;clear h3 hg3 hb3) | fail)
    go_ret;exact ⟨v4,rfl,by rw [← HQ.o];exact H4.o,HB4.o⟩
end disk
end Go.Proofs.YtnpblpbohcegoaaGreatDoor
