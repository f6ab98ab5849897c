import Derived.Test.YtnpblpbohcegoaaGreatDoorVVRry7
import Derived.Test.YtnpblpbohcegoaaGreatDoorVVRry8
import Derived.Test.YtnpblpbohcegoaaGreatDoorVVRry10
set_option linter.unusedVariables false
set_option linter.unusedSimpArgs false
set_option maxHeartbeats 4000000
set_option maxRecDepth 100000
namespace Go.Proofs.YtnpblpbohcegoaaGreatDoor
namespace book
open Go.RowKit
open acc (Ac Tm Bi APost BPost OweIs SellIs GrantIs RekeyIs)
def Small (bk:List Cm) (k:Nat):Prop:=bk.length≤k∧∀ c∈bk,c.so.length≤k∧0≤c.a.rv∧c.a.rv≤15
theorem Small.zero:Small [] 0:=⟨Nat.le_refl _,fun c hc=>by cases hc⟩
theorem owe_rv {a b:Ac} {d:tar.Du} (h:OweIs a d b 0) (hr:0≤a.rv∧a.rv≤15):0≤b.rv∧b.rv≤15:=by
 rcases h with ⟨_,_,e⟩ | ⟨_,_,_,e⟩ | ⟨_,_,_,_,e⟩ | ⟨_,_,_,rfl,_⟩
 ·cases e
 ·cases e
 ·cases e
 ·exact hr
theorem tells_rv {t:Tm} {c:Cm} {v:Ev} {b:Ac} {l:Bi} (h:Tells t c v b l 0) (hr:0≤c.a.rv∧c.a.rv≤15):0≤b.rv∧b.rv≤15:=by
 rcases h with ⟨_,h⟩ | ⟨_,h⟩ | ⟨_,h⟩
 ·rcases h with ⟨p,rfl,_⟩ | ⟨_,_,e,_⟩ | ⟨_,_,_,e,_⟩ | ⟨_,_,_,_,u,_,rfl,_⟩
  ·exact ⟨Int.le_refl _,by show (0:Int)≤15;decide⟩
  ·cases e
  ·cases e
  ·exact hr
 ·rcases h with ⟨p,rfl,_⟩ | ⟨_,_,e,_⟩ | ⟨_,_,_,e,_⟩ | ⟨_,_,_,_,e,_⟩ | ⟨_,_,_,_,_,rfl,_⟩
  ·exact ⟨Int.le_refl _,by show (0:Int)≤15;decide⟩
  ·cases e
  ·cases e
  ·cases e
  ·exact hr
 ·rcases h with ⟨_,_,_,e⟩ | ⟨_,_,_,_,e⟩ | ⟨_,_,_,_,_,e⟩ | ⟨_,q,_,rfl,_,_⟩
  ·cases e
  ·cases e
  ·cases e
  ·exact ⟨by show 0≤c.a.rv+1;omega,by show c.a.rv+1≤15;omega⟩
theorem hap_small {t:Tm} {c c':Cm} {v:Ev} {k:Nat} (h:HapIs t c v c' 0) (hs:c.so.length≤k∧0≤c.a.rv∧c.a.rv≤15):c'.so.length≤k+1∧0≤c'.a.rv∧c'.a.rv≤15:=by
 rcases h with ⟨_,b,q,r⟩ | ⟨_,b,l,e,q,r⟩
 ·rw [r rfl];exact ⟨by show c.so.length≤k+1;omega,owe_rv q hs.2⟩
 ·rcases r with ⟨x,y⟩ | ⟨_,_,y⟩ | ⟨x,_,_,rfl⟩
  ·exact absurd y.symm x
  ·cases y
  ·subst x;refine ⟨?_,tells_rv q hs.2⟩;show (c.so++[_]).length≤k+1;rw [List.length_append];exact Nat.succ_le_succ hs.1
theorem step_small {t:Tm} {bk bk':List Cm} {v:Ev} {k:Nat} (h:StepIs t bk v bk' 0) (hs:Small bk k):Small bk' (k+1):=by
 rcases h with ⟨_,e⟩ | ⟨_,_,_,e⟩ | ⟨_,_,_,_,rfl⟩ | ⟨_,_,_,e⟩ | ⟨_,_,j,c',hj,hh,he⟩
 ·cases e
 ·cases e
 ·refine ⟨by rw [List.length_append];exact Nat.succ_le_succ hs.1,fun c hc=>?_⟩;rcases List.mem_append.1 hc with h | h
  ·have:=hs.2 c h;omega
  ·rw [List.mem_singleton.1 h];exact ⟨Nat.zero_le _,Int.le_refl _,by show (0:Int)≤15;decide⟩
 ·cases e
 ·rw [he rfl]
  have hm:bk.getD j cm0∈bk:=by
   have:bk.getD j cm0=bk[j]'hj.1:=by simp [List.getD,List.getElem?_eq_getElem hj.1]
   rw [this];exact List.getElem_mem _
  refine ⟨by rw [List.length_set];have:=hs.1;omega,fun c hc=>?_⟩;rcases List.mem_or_eq_of_mem_set hc with h | rfl
  ·have:=hs.2 c h;omega
  ·exact hap_small hh (hs.2 _ hm)
end book
namespace rcp
structure Rc where
 me:Int
 id:Int
 te:Int
 de:Int
 fe:Int
 pr:Int
 ch:Int
 un:Int
 tk:List UInt8
def rc0:Rc:=⟨0,0,0,0,0,0,0,0,[]⟩
end rcp
namespace disk
open Go.RowKit cell
def Wds (c:List Int):Prop:=∀ x∈c,0≤x∧x<4294967296
theorem wds_zero (n:Nat):Wds (List.replicate n 0):=fun x hx=>by
 rw [(List.mem_replicate.1 hx).2];decide
theorem wds_at {c:List Int} (h:Wds c) (j:Nat):0≤c.getD j 0∧c.getD j 0<4294967296:=by
 by_cases hj:j<c.length
 ·have e:c.getD j 0=c[j]:=by simp [List.getD,List.getElem?_eq_getElem hj]
  rw [e];exact h _ (List.getElem_mem hj)
 ·have e:c.getD j 0=0:=by simp [List.getD,List.getElem?_eq_none (Nat.le_of_not_lt hj)]
  rw [e];decide
theorem wds_set {c:List Int} (h:Wds c) (k:Nat) (x:Int) (hx:0≤x∧x<4294967296):Wds (c.set k x):=fun y hy=>by
 rcases List.mem_or_eq_of_mem_set hy with hy | rfl
 ·exact h y hy
 ·exact hx
def WrsOk (l:List Wr):Prop:=∀ e∈l,0≤e.d∧e.d<4294967296
theorem wds_wrt {c:List Int} (h:Wds c) (l:List Wr) (hl:WrsOk l):Wds (wrt c l):=by
 induction l generalizing c with
 | nil=>exact h
 | cons e l ih=>exact ih (wds_set h _ _ (hl e List.mem_cons_self)) fun x hx=>hl x (List.mem_cons_of_mem _ hx)
theorem wrs_put {r:List Int} (hr:Wds r) (a k:Nat):WrsOk (putW a r k):=by
 induction k with
 | zero=>intro e he;cases he
 | succ k ih=>
  intro e he;rcases List.mem_append.1 he with h | h
  ·exact ih e h
  ·rw [List.mem_singleton.1 h];exact wds_at hr k
theorem wrs_app {c r:List Int} (hr:Wds r) (hm:RMay r) (a:Nat):WrsOk (appW c a r):=by
 intro e he;unfold appW at he;rcases List.mem_append.1 he with h | h
 ·exact wrs_put hr a _ e h
 ·rcases List.mem_append.1 h with h | h
  ·unfold zeroW at h;split at h
   ·rw [List.mem_singleton.1 h];exact ⟨Int.le_refl _,by show (0:Int)<4294967296;decide⟩
   ·cases h
  ·rw [List.mem_singleton.1 h];have:=hm.2;exact ⟨by show (0:Int)≤(r.length:Int);omega,by show (r.length:Int)<_;omega⟩
theorem wrs_take {l:List Wr} (h:WrsOk l) (k:Nat):WrsOk (l.take k):=fun e he=>h e (List.mem_of_mem_take he)
theorem put_in {r:List Int} (a k n:Nat) (hn:a+k<n):cell.allN n (putW a r k)=true:=by
 induction k with
 | zero=>rfl
 | succ k ih=>exact cell.allN_snoc (ih (by omega)) ⟨by show (0:Int)≤((a+k+1:Nat):Int);omega,by show ((a+k+1:Nat):Int)<(n:Int);omega⟩
theorem app_in (c r:List Int) (a:Nat) (h:a+r.length<c.length):cell.allN c.length (appW c a r)=true:=by
 unfold appW;rw [← List.append_assoc];refine cell.allN_snoc ?_ ⟨by show (0:Int)≤(a:Int);omega,by show (a:Int)<(c.length:Int);omega⟩;unfold zeroW;split
 ·exact cell.allN_snoc (put_in a _ _ h) ⟨by show (0:Int)≤((a+r.length+1:Nat):Int);omega,by show ((a+r.length+1:Nat):Int)<(c.length:Int);omega⟩
 ·rw [List.append_nil];exact put_in a _ _ h
def Room (sl:List Sli):Prop:=∀ s∈sl,s.n≤s.c∧s.n≤20
theorem Room.at {sl:List Sli} (h:Room sl) (i:Nat) (hi:i<sl.length):(sl.getD i sl0).n≤(sl.getD i sl0).c∧(sl.getD i sl0).n≤20:=by
 have e:sl.getD i sl0=sl[i]:=by simp [List.getD,List.getElem?_eq_getElem hi]
 rw [e];exact h _ (List.getElem_mem hi)
end disk
section
open Go.RowKit
theorem wp_letS {P:Program} {ops:Array Oper} {rest:List Oper} {o:Oper} {a:Act} {w:World} {Q:Exit→Act→World→Prop} (hgd:o.guard=none) (ty:TypeId) (x y:Operand) (ho:o.op = .store ty x y)
  (g off:Nat) (hx:a.eval x = .pointer (some ⟨g,off,none⟩)) (p:Option Addr) (n c:Nat) (hy:a.eval y = .slice p n c) (hi:(P.info? ty).map (·.size)=some 1)
  (cs:Array Value) (t:TypeId) (hB:Blk w g cs t) (hin:off<cs.size)
  (h:∀ W,Upd w W g (cs.setIfInBounds off (.slice p n c)) t→wpList P ops Q rest (a.put o.dst undef) W):wpList P ops Q (o :: rest) a w:=
 wp_let hgd ty x y ho g off hx _ hy #[.slice p n c] rfl hi (by simp [Value.oneCell']) cs t hB (by simp;omega) _ rfl h
end
namespace rcp
open Go.RowKit
theorem reI (d:Nat) (a a':Int) (w:World):(Op.equalIn (d+1) 3 (zI a) (zI a')).run Tryz.prog w = .ok (a == a') w:=run_equalIn_int w d _ _ _ a a' Tryz.underlying3
theorem rp0 (a b c d e f g h:Int) (t:ByteArray) (w:World):(part 3 #[zI a,zI b,zI c,zI d,zI e,zI f,zI g,zI h,.string t] 0).run Tryz.prog w = .ok (zI a) w:=by kernel_rfl
theorem rp1 (a b c d e f g h:Int) (t:ByteArray) (w:World):(part 68 #[zI a,zI b,zI c,zI d,zI e,zI f,zI g,zI h,.string t] 1).run Tryz.prog w = .ok (.agg #[zI b,zI c,zI d,zI e,zI f,zI g,zI h]) w:=by kernel_rfl
theorem rp8 (a b c d e f g h:Int) (t:ByteArray) (w:World):(part 9 #[zI a,zI b,zI c,zI d,zI e,zI f,zI g,zI h,.string t] 8).run Tryz.prog w = .ok (.string t) w:=by kernel_rfl
theorem rb0 (b c d e f g h:Int) (w:World):(part 3 #[zI b,zI c,zI d,zI e,zI f,zI g,zI h] 0).run Tryz.prog w = .ok (zI b) w:=by kernel_rfl
theorem rb1 (b c d e f g h:Int) (w:World):(part 3 #[zI b,zI c,zI d,zI e,zI f,zI g,zI h] 1).run Tryz.prog w = .ok (zI c) w:=by kernel_rfl
theorem rb2 (b c d e f g h:Int) (w:World):(part 3 #[zI b,zI c,zI d,zI e,zI f,zI g,zI h] 2).run Tryz.prog w = .ok (zI d) w:=by kernel_rfl
theorem rb3 (b c d e f g h:Int) (w:World):(part 3 #[zI b,zI c,zI d,zI e,zI f,zI g,zI h] 3).run Tryz.prog w = .ok (zI e) w:=by kernel_rfl
theorem rb4 (b c d e f g h:Int) (w:World):(part 3 #[zI b,zI c,zI d,zI e,zI f,zI g,zI h] 4).run Tryz.prog w = .ok (zI f) w:=by kernel_rfl
theorem rb5 (b c d e f g h:Int) (w:World):(part 3 #[zI b,zI c,zI d,zI e,zI f,zI g,zI h] 5).run Tryz.prog w = .ok (zI g) w:=by kernel_rfl
theorem rb6 (b c d e f g h:Int) (w:World):(part 3 #[zI b,zI c,zI d,zI e,zI f,zI g,zI h] 6).run Tryz.prog w = .ok (zI h) w:=by kernel_rfl
theorem eqB (k:Nat) (b c d e f g h:Int) (w:World):(Op.equalIn (k+2) 68 (.agg #[zI b,zI c,zI d,zI e,zI f,zI g,zI h]) (.agg #[zI b,zI c,zI d,zI e,zI f,zI g,zI h])).run Tryz.prog w = .ok true w:=by
 rw [show k+2=(k+1)+1 from rfl,run_equalIn_agg w (k+1) 68 _ _ (by kernel_rfl) (by kernel_rfl)];simp only [Program.fieldsOf,Tryz.underlying68,Op.eqFields,Sem.run_bind,Sem.run_ite];simp [rb0,rb1,rb2,rb3,rb4,rb5,rb6,reI]
theorem reS (d:Nat) (t:ByteArray) (w:World):(Op.equalIn (d+1) 9 (.string t) (.string t)).run Tryz.prog w = .ok true w:=by
 have h:(t == t)=true:=by
  first
   | exact beq_self_eq_true t
   | exact BEq.rfl
   | (cases t with | mk d=>exact beq_self_eq_true d)
   | (cases t with | mk d=>simp [BEq.beq])
 simp [Op.equalIn,Tryz.underlying9,go_sem,h]
theorem eqRc (a b c d e f g h:Int) (t:ByteArray) (w:World):(Op.equalIn 10000 78 (.agg #[zI a,zI b,zI c,zI d,zI e,zI f,zI g,zI h,.string t]) (.agg #[zI a,zI b,zI c,zI d,zI e,zI f,zI g,zI h,.string t])).run Tryz.prog w = .ok true w:=by
 rw [show (10000:Nat)=9999+1 from rfl,run_equalIn_agg w 9999 78 _ _ (by kernel_rfl) (by kernel_rfl)];simp only [Program.fieldsOf,Tryz.underlying78,Op.eqFields,Sem.run_bind,Sem.run_ite];simp [rp0,rp1,rp8,show (9999:Nat)=9998+1 from rfl,show (9999:Nat)=9997+2 from rfl,reI,reS,eqB]
end rcp
namespace book
open Go.RowKit
def refV (f:Int):Value:= .iface 150 (.agg #[zI f])
def thrown (f:Int):List PanicEntry:=[{ v:=refV f,recovered:=false }]
theorem insist_ok (w:World):Calls Tryz.prog 112 #[zI 0] w fun e w'=>e = .returned (.tuple #[])∧w'=w:=by
 go_enter Tryz.func112,Tryz.ntmps112;go_wp2;go_end0;exact ⟨rfl,rfl⟩
theorem insist_no (f:Int) (hf:f≠0) (w:World):Calls Tryz.prog 112 #[zI f] w fun e w'=>e = .panicked (thrown f)∧w'=w:=by
 have nf:(f != 0)=true:=by simpa using hf
 clear hf;go_enter Tryz.func112,Tryz.ntmps112;go_wp2;exact ⟨rfl,rfl,rfl⟩
theorem reason_nil (w:World):Calls Tryz.prog 39 #[.nilIface] w fun e w'=>e = .returned (zI 0)∧w'=w:=by
 have hq:∀ w:World,(binOp BinOp.eql 20 .nilIface .nilIface).run Tryz.prog w = .ok (.bool true) w:=fun _=>by kernel_rfl
 go_enter Tryz.func39,Tryz.ntmps39;go_wp2;go_ret;exact ⟨rfl,rfl⟩
theorem reason_is (f:Int) (w:World):Calls Tryz.prog 39 #[refV f] w fun e w'=>e = .returned (zI f)∧Below w.heap.size w w':=by
 have hq:∀ w:World,(binOp BinOp.eql 20 (refV f) .nilIface).run Tryz.prog w = .ok (.bool false) w:=fun _=>by kernel_rfl
 have h1:∀ w:World,(Instr.typeAssert (refV f) 20 148 false).run Tryz.prog w = .ok (refV f) w:=fun _=>by kernel_rfl
 have h2:∀ w:World,(Instr.typeAssert (refV f) 148 150 true).run Tryz.prog w = .ok (.tuple #[.agg #[zI f],.bool true]) w:=fun _=>by kernel_rfl
 have HB:Hid (Below w.heap.size w (w.alloc (.cells #[zI f] 150))):=(Below.refl _ _).alloc (Nat.le_refl _) _;unfold refV at *;go_enter Tryz.func39,Tryz.ntmps39;go_wp2;go_ret;exact ⟨rfl,HB.o⟩
theorem encode_caught (g:Nat) (f0 f:Int) (w:World) (hb:Blk w g #[zI f0] 27) :
  CallsD Tryz.prog 152 #[.pointer (some ⟨g,0,none⟩)] (.panicking (thrown f)) w fun e u' w'=>e = .returned (.tuple #[])∧settle u' = .returning∧∃ W,Below w.heap.size w W∧Upd W w' g #[zI f] 27:=by
 refine callsD_of_wpS Tryz.func152 rfl fun c₀ cs hu=>?_;apply wpS_region;simp only [thrown] at hu;simp [wpOpsS,go_sem,recoverD,hu,Tryz.ntmps152,Exit.thenS];refine (reason_is f w).mono ?_;rintro e w1 ⟨rfl,hb1⟩;have hB:=hb.next hb1;have hc:w1.cell? ⟨g,0,none⟩=some (zI f0):=hB.cell 0;have hz:w1.frozen? ⟨g,0,none⟩=false:=hB.free 0;have hU:Upd w1 (w1.setCell ⟨g,0,none⟩ (zI f)) g #[zI f] 27:=upd_cells g _ [zI f] 0 w1 _ hB;simp [go_sem,hc,hz,bodyPostS,results,Tryz.results152,settle];exact ⟨w1,hb1,hU⟩
theorem encode_idle (g:Nat) (f0:Int) (w:World) (hb:Blk w g #[zI f0] 27) :
  CallsD Tryz.prog 152 #[.pointer (some ⟨g,0,none⟩)] .returning w fun e u' w'=>e = .returned (.tuple #[])∧settle u' = .returning∧∃ W,Below w.heap.size w W∧Upd W w' g #[zI 0] 27:=by
 refine callsD_of_wpS Tryz.func152 rfl fun c₀ cs hu=>?_;apply wpS_region;simp [wpOpsS,go_sem,recoverD,hu,Tryz.ntmps152,Exit.thenS];refine (reason_nil w).mono ?_;rintro e w1 ⟨rfl,rfl⟩;have hc:w1.cell? ⟨g,0,none⟩=some (zI f0):=hb.cell 0;have hz:w1.frozen? ⟨g,0,none⟩=false:=hb.free 0;have hU:Upd w1 (w1.setCell ⟨g,0,none⟩ (zI 0)) g #[zI 0] 27:=upd_cells g _ [zI 0] 0 w1 _ hb;simp [go_sem,hc,hz,bodyPostS,results,Tryz.results152,hu,settle];exact ⟨.returning,(by cases c₀;simp_all),rfl,w1,Below.refl _ _,hU⟩
theorem decode_caught (g:Nat) (f0 f:Int) (w:World) (hb:Blk w g #[zI f0] 27) :
  CallsD Tryz.prog 65 #[.pointer (some ⟨g,0,none⟩)] (.panicking (thrown f)) w fun e u' w'=>e = .returned (.tuple #[])∧settle u' = .returning∧∃ W,Below w.heap.size w W∧Upd W w' g #[zI f] 27:=by
 refine callsD_of_wpS Tryz.func65 rfl fun c₀ cs hu=>?_;apply wpS_region;simp only [thrown] at hu;simp [wpOpsS,go_sem,recoverD,hu,Tryz.ntmps65,Exit.thenS];refine (reason_is f w).mono ?_;rintro e w1 ⟨rfl,hb1⟩;have hB:=hb.next hb1;have hc:w1.cell? ⟨g,0,none⟩=some (zI f0):=hB.cell 0;have hz:w1.frozen? ⟨g,0,none⟩=false:=hB.free 0;have hU:Upd w1 (w1.setCell ⟨g,0,none⟩ (zI f)) g #[zI f] 27:=upd_cells g _ [zI f] 0 w1 _ hB;simp [go_sem,hc,hz,bodyPostS,results,Tryz.results65,settle];exact ⟨w1,hb1,hU⟩
theorem decode_idle (g:Nat) (f0:Int) (w:World) (hb:Blk w g #[zI f0] 27) :
  CallsD Tryz.prog 65 #[.pointer (some ⟨g,0,none⟩)] .returning w fun e u' w'=>e = .returned (.tuple #[])∧settle u' = .returning∧∃ W,Below w.heap.size w W∧Upd W w' g #[zI 0] 27:=by
 refine callsD_of_wpS Tryz.func65 rfl fun c₀ cs hu=>?_;apply wpS_region;simp [wpOpsS,go_sem,recoverD,hu,Tryz.ntmps65,Exit.thenS];refine (reason_nil w).mono ?_;rintro e w1 ⟨rfl,rfl⟩;have hc:w1.cell? ⟨g,0,none⟩=some (zI f0):=hb.cell 0;have hz:w1.frozen? ⟨g,0,none⟩=false:=hb.free 0;have hU:Upd w1 (w1.setCell ⟨g,0,none⟩ (zI 0)) g #[zI 0] 27:=upd_cells g _ [zI 0] 0 w1 _ hb;simp [go_sem,hc,hz,bodyPostS,results,Tryz.results65,hu,settle];exact ⟨.returning,(by cases c₀;simp_all),rfl,w1,Below.refl _ _,hU⟩
end book
namespace deb
open tar (Du du0 Came RowD Ld ErrPost TwoPost PairT)
open Go.RowKit
theorem pcheck (a:Option Addr) (n cap:Nat) (ls:List Du) (w:World) (hr:RowD w a n ls) (hn:n≤maxLen):Calls Tryz.prog 199 #[.slice a n cap] w fun e w'=>∃ f,e = .returned (zI f)∧FaultIs ls f∧Below w.heap.size w w':=by
 have hlen:=hr.1;have HIU:Hid (∀ x W,Calls Tryz.prog 202 #[zI 0,zI 1000000000,zI x] W fun e w'=>e = .returned (.bool (decide (0≤x∧x≤1000000000)))∧w'=W):=fun x W=>dwithin 0 1000000000 x W;have HIP:Hid (∀ x W,Calls Tryz.prog 202 #[zI 0,zI 10000,zI x] W fun e w'=>e = .returned (.bool (decide (0≤x∧x≤10000)))∧w'=W):=fun x W=>dwithin 0 10000 x W;have hnm:n≤9223372036854775807:=by unfold maxLen at hn;omega
 by_cases hs:n≤8
 ·have HS:Hid (ls.length≤8):=by show _≤_;rw [hlen];exact hs
  have hd8:decide (8<(n:Int))=false:=decide_eq_false (by omega);have HROW:Hid (RowD w a n ls):=hr;have HLEN:Hid (ls.length=n):=hlen;clear hr hn hlen;go_enter Tryz.func199,Tryz.ntmps199;go_wp2_with fail;go_loopw [10] (fun x wr=>∃ k:Nat,k≤n∧x=zI (k:Int)∧(∀ i,i<k→Ok1 (ls.getD i du0))∧Below w.heap.size w wr) (fun x _=>n - (intOf x).toNat)
  case atStart=>exact ⟨0,Nat.zero_le _,rfl,fun i hi=>absurd hi (Nat.not_lt_zero _),Below.refl _ _⟩
  case round=>
   obtain ⟨k,hk,rfl,hf,hb⟩:=hrel;have HF:Hid (∀ i,i<k→Ok1 (ls.getD i du0)):=hf;have HB:Hid (Below w.heap.size w wr):=hb;clear hf;by_cases hlt:k<n
   ·have hdl:decide ((k:Int)<(n:Int))=true:=by simp;omega
    obtain ⟨b,off,rfl,hbl,hc⟩:=HROW.o.at (by omega);have c0:wr.cell? ⟨b,off+k*2,none⟩=some (zI (ls.getD k du0).a):=(hb.cell (p:=⟨b,off+k*2,none⟩) hbl).trans (hc k hlt).1;have c1:wr.cell? ⟨b,off+k*2+1,none⟩=some (zI (ls.getD k du0).b):=(hb.cell (p:=⟨b,off+k*2+1,none⟩) hbl).trans (hc k hlt).2;have HBA:Hid (∀ o,Below w.heap.size w (wr.alloc o)):=fun o=>hb.alloc hb.size o;clear hb hc;have HU:=HIU.o (ls.getD k du0).a;have HP:=HIP.o (ls.getD k du0).b;by_cases hu:0≤(ls.getD k du0).a∧(ls.getD k du0).a≤1000000000
    ·rw [decide_eq_true hu] at HU;by_cases hp:0≤(ls.getD k du0).b∧(ls.getD k du0).b≤10000
     ·
      rw [decide_eq_true hp] at HP
      have HF2:Hid (∀ i,i<k+1→Ok1 (ls.getD i du0)):=fun i hi=>by
       by_cases e:i=k
       ·subst e;exact ⟨hu,hp⟩
       ·exact HF.o i (by omega)
      have HU2:Hid (∀ W,Calls Tryz.prog 202 #[zI 0,zI 1000000000,zI (ls.getD k du0).a] W fun e w'=>e = .returned (.bool true)∧w'=W):=HU;have HP2:Hid (∀ W,Calls Tryz.prog 202 #[zI 0,zI 10000,zI (ls.getD k du0).b] W fun e w'=>e = .returned (.bool true)∧w'=W):=HP;clear HU HP hu hp HF;generalize (ls.getD k du0).a=x at *;generalize (ls.getD k du0).b=y at *;go_wp2_with fail;refine (HU2.o _).mono ?_;rintro e w2 ⟨rfl,hw2⟩;subst w2;go_wp2_with fail;refine (HP2.o _).mono ?_;rintro e w2 ⟨rfl,hw2⟩;subst w2;go_wp2_with fail;go_roundw
      case rel=>exact ⟨k+1,by omega,by go_num,HF2.o,HBA.o _⟩
      case measure=>simp [intOf];omega
     ·
      rw [decide_eq_false hp] at HP;have HN:Hid (¬ DFits ls):=fun h=>hp (h k (by rw [HLEN.o];exact hlt)).2;have HU2:Hid (∀ W,Calls Tryz.prog 202 #[zI 0,zI 1000000000,zI (ls.getD k du0).a] W fun e w'=>e = .returned (.bool true)∧w'=W):=HU;have HP2:Hid (∀ W,Calls Tryz.prog 202 #[zI 0,zI 10000,zI (ls.getD k du0).b] W fun e w'=>e = .returned (.bool false)∧w'=W):=HP;clear HU HP hu hp HF;generalize (ls.getD k du0).a=x at *;generalize (ls.getD k du0).b=y at *;go_wp2_with fail;refine (HU2.o _).mono ?_;rintro e w2 ⟨rfl,hw2⟩;subst w2;go_wp2_with fail;refine (HP2.o _).mono ?_;rintro e w2 ⟨rfl,hw2⟩;subst w2;go_wp2_with fail;go_ret;exact ⟨_,rfl,.inr (.inl ⟨HS.o,HN.o,rfl⟩),HBA.o _⟩
    ·
     rw [decide_eq_false hu] at HU;have HN:Hid (¬ DFits ls):=fun h=>hu (h k (by rw [HLEN.o];exact hlt)).1;have HU2:Hid (∀ W,Calls Tryz.prog 202 #[zI 0,zI 1000000000,zI (ls.getD k du0).a] W fun e w'=>e = .returned (.bool false)∧w'=W):=HU;clear HU HP hu HF;generalize (ls.getD k du0).a=x at *;generalize (ls.getD k du0).b=y at *;go_wp2_with fail;refine (HU2.o _).mono ?_;rintro e w2 ⟨rfl,hw2⟩;subst w2;go_wp2_with fail;go_ret;exact ⟨_,rfl,.inr (.inl ⟨HS.o,HN.o,rfl⟩),HBA.o _⟩
   ·obtain rfl:k=n:=by omega
    have hdl:decide ((k:Int)<(k:Int))=false:=by simp
    have HFT:Hid (DFits ls):=fun i hi=>HF.o i (by rw [HLEN.o] at hi;exact hi);clear HF HIU HIP hb;go_wp2_with fail;go_ret;exact ⟨_,rfl,.inr (.inr ⟨⟨HS.o,HFT.o⟩,rfl⟩),HB.o⟩
 ·have HS:Hid (¬ ls.length≤8):=by show ¬ _≤_;rw [hlen];exact hs
  have hd8:decide (8<(n:Int))=true:=decide_eq_true (by omega);clear hs hr hlen hn;go_enter Tryz.func199,Tryz.ntmps199;go_wp2_with fail;go_ret;exact ⟨_,rfl,.inl ⟨HS.o,rfl⟩,Below.refl _ _⟩
theorem grow_more {b x:Int} (hx:0≤x) (hx1:x≤1000000000) (hb:0≤b):grow b x=x+min (x*b / 10000) (1000000000 - x):=by
 unfold grow;have:=Int.mul_nonneg hx hb;generalize x*b=p at *;omega
theorem pgrowth (x b:Int) (w:World) (hx:0≤x∧x≤1000000000) (hb:0≤b∧b≤10000):Calls Tryz.prog 206 #[.agg #[zI x,zI b]] w fun e w'=>e = .returned (zI (min (x*b / 10000) (1000000000 - x)))∧Below w.heap.size w w':=by
 have HPA:Hid (∀ W,Calls Tryz.prog 165 #[zI x,zI b] W fun e w'=>e = .returned (.tuple #[zI (x*b / 10000),zI 0])∧Below W.heap.size W w'):=fun W=>cents.part_yes x b W hx.1 (by omega) hb.1 hb.2;have HBX:Hid (Blk (w.alloc (.cells #[zI x,zI b] 70)) w.heap.size #[zI x,zI b] 70):=Blk.new w _ _;have HBW:Hid (Below w.heap.size w (w.alloc (.cells #[zI x,zI b] 70))):=(Below.refl _ _).alloc (Nat.le_refl _) _;obtain ⟨hx0,hx1⟩:=hx;clear hb;have hmin:=tar.run_min (x*b / 10000) (1000000000 - x) _ rfl;generalize x*b / 10000=q at *;generalize min q (1000000000 - x)=m at *;go_enter Tryz.func206,Tryz.ntmps206;go_wp2_with fail;refine (HPA.o _).mono ?_;rintro e w1 ⟨rfl,hb1⟩;have HB1:=shB HBW hb1;have c0:w1.cell? ⟨w.heap.size,0,none⟩=some (zI x):=(HBX.o.next hb1).cell 0;have c1:w1.cell? ⟨w.heap.size,1,none⟩=some (zI b):=(HBX.o.next hb1).cell 1;clear hb1 HPA HBX HBW;go_wp2_with fail;go_ret;exact ⟨rfl,HB1.o⟩
theorem debtT:PairT Tryz.prog 70 49:=⟨by kernel_rfl,Tryz.underlying49⟩
end deb
namespace tar
open Go.RowKit
open Classical in
theorem kcheck:KtCheck:=by
 intro w a n cap ls hcame;have hr:=hcame.row;have hn:=hcame.most;clear hcame;have hlen:=hr.1;have HIU:Hid (∀ x W,Calls Tryz.prog 113 #[zI 1,zI 10000000,zI x] W fun e w'=>e = .returned (.bool (decide (1≤x∧x≤10000000)))∧w'=W):=fun x W=>pwithin 1 10000000 x W;have HIP:Hid (∀ x W,Calls Tryz.prog 113 #[zI 1,zI 100000,zI x] W fun e w'=>e = .returned (.bool (decide (1≤x∧x≤100000)))∧w'=W):=fun x W=>pwithin 1 100000 x W;by_cases hs:1≤n∧n≤8
 ·have HS:Hid (Sized ls):=by show 1≤ls.length∧ls.length≤8;rw [hlen];exact hs
  obtain ⟨hs1,hs2⟩:=hs;have hd0:((n:Int) == 0)=false:=by simp;omega
  have hd8:decide ((8:Int)<(n:Int))=false:=by simp;omega
  obtain ⟨b,off,rfl,hbl,hc⟩:=hr.at hs1;have HC:Hid (∀ i,i<n→w.cell? ⟨b,off+i*2,none⟩=some (zI (ls.getD i du0).a)∧w.cell? ⟨b,off+i*2+1,none⟩=some (zI (ls.getD i du0).b)):=hc;have HLEN:Hid (ls.length=n):=hlen;have HRS:Hid (∀ W,Below w.heap.size w W→Calls Tryz.prog 114 #[.slice (some ⟨b,off,none⟩) n cap] W fun e w'=>e = .returned (.bool (decide (Rises ls)))∧Below W.heap.size W w'):=fun W hW=>prises b off n cap ls W hs1 hs2 hlen (Nat.lt_of_lt_of_le hbl hW.size) (fun i hi=>⟨(hW.cell (p:=⟨b,off+i*2,none⟩) hbl).trans (hc i hi).1,(hW.cell (p:=⟨b,off+i*2+1,none⟩) hbl).trans (hc i hi).2⟩);have hnm:n≤9223372036854775807:=by omega
  clear hc hr hn hlen;go_enter Tryz.func68,Tryz.ntmps68;go_wp2_with fail;go_loopw [15] (fun x wr=>∃ k:Nat,k≤n∧x=zI (k:Int)∧(∀ i,i<k→(1≤(ls.getD i du0).a∧(ls.getD i du0).a≤10000000)∧1≤(ls.getD i du0).b∧(ls.getD i du0).b≤100000)∧Below w.heap.size w wr) (fun x _=>n - (intOf x).toNat)
  case atStart=>exact ⟨0,Nat.zero_le _,rfl,fun i hi=>absurd hi (Nat.not_lt_zero _),Below.refl _ _⟩
  case round=>
   obtain ⟨k,hk,rfl,hf,hb⟩:=hrel;have HF:Hid (∀ i,i<k→(1≤(ls.getD i du0).a∧(ls.getD i du0).a≤10000000)∧1≤(ls.getD i du0).b∧(ls.getD i du0).b≤100000):=hf;have HB:Hid (Below w.heap.size w wr):=hb;clear hf;by_cases hlt:k<n
   ·have hdl:decide ((k:Int)<(n:Int))=true:=by simp;omega
    have c0:wr.cell? ⟨b,off+k*2,none⟩=some (zI (ls.getD k du0).a):=(hb.cell (p:=⟨b,off+k*2,none⟩) hbl).trans (HC.o k hlt).1;have c1:wr.cell? ⟨b,off+k*2+1,none⟩=some (zI (ls.getD k du0).b):=(hb.cell (p:=⟨b,off+k*2+1,none⟩) hbl).trans (HC.o k hlt).2;have HBA:Hid (∀ o,Below w.heap.size w (wr.alloc o)):=fun o=>hb.alloc hb.size o;clear hb;have HU:=HIU.o (ls.getD k du0).a;have HP:=HIP.o (ls.getD k du0).b;by_cases hu:1≤(ls.getD k du0).a∧(ls.getD k du0).a≤10000000
    ·rw [decide_eq_true hu] at HU;by_cases hp:1≤(ls.getD k du0).b∧(ls.getD k du0).b≤100000
     ·rw [decide_eq_true hp] at HP
      have HF2:Hid (∀ i,i<k+1→(1≤(ls.getD i du0).a∧(ls.getD i du0).a≤10000000)∧1≤(ls.getD i du0).b∧(ls.getD i du0).b≤100000):=fun i hi=>by
       by_cases e:i=k
       ·subst e;exact ⟨hu,hp⟩
       ·exact HF.o i (by omega)
      have HU2:Hid (∀ W,Calls Tryz.prog 113 #[zI 1,zI 10000000,zI (ls.getD k du0).a] W fun e w'=>e = .returned (.bool true)∧w'=W):=HU;have HP2:Hid (∀ W,Calls Tryz.prog 113 #[zI 1,zI 100000,zI (ls.getD k du0).b] W fun e w'=>e = .returned (.bool true)∧w'=W):=HP;clear HU HP hu hp HF;generalize (ls.getD k du0).a=x at *;generalize (ls.getD k du0).b=y at *;go_wp2_with fail;refine (HU2.o _).mono ?_;rintro e w2 ⟨rfl,hw2⟩;subst w2;go_wp2_with fail;refine (HP2.o _).mono ?_;rintro e w2 ⟨rfl,hw2⟩;subst w2;go_wp2_with fail;go_roundw
      case rel=>exact ⟨k+1,by omega,by go_num,HF2.o,HBA.o _⟩
      case measure=>simp [intOf];omega
     ·rw [decide_eq_false hp] at HP;have HN:Hid (¬ Fits ls):=fun h=>hp (h k (by rw [HLEN.o];exact hlt)).2;have HU2:Hid (∀ W,Calls Tryz.prog 113 #[zI 1,zI 10000000,zI (ls.getD k du0).a] W fun e w'=>e = .returned (.bool true)∧w'=W):=HU;have HP2:Hid (∀ W,Calls Tryz.prog 113 #[zI 1,zI 100000,zI (ls.getD k du0).b] W fun e w'=>e = .returned (.bool false)∧w'=W):=HP;clear HU HP hu hp HF;generalize (ls.getD k du0).a=x at *;generalize (ls.getD k du0).b=y at *;go_wp2_with fail;refine (HU2.o _).mono ?_;rintro e w2 ⟨rfl,hw2⟩;subst w2;go_wp2_with fail;refine (HP2.o _).mono ?_;rintro e w2 ⟨rfl,hw2⟩;subst w2;go_wp2_with fail;go_ret;exact ⟨_,rfl,.inr (.inl ⟨HS.o,HN.o,rfl⟩),HBA.o _⟩
    ·rw [decide_eq_false hu] at HU;have HN:Hid (¬ Fits ls):=fun h=>hu (h k (by rw [HLEN.o];exact hlt)).1;have HU2:Hid (∀ W,Calls Tryz.prog 113 #[zI 1,zI 10000000,zI (ls.getD k du0).a] W fun e w'=>e = .returned (.bool false)∧w'=W):=HU;clear HU HP hu HF;generalize (ls.getD k du0).a=x at *;generalize (ls.getD k du0).b=y at *;go_wp2_with fail;refine (HU2.o _).mono ?_;rintro e w2 ⟨rfl,hw2⟩;subst w2;go_wp2_with fail;go_ret;exact ⟨_,rfl,.inr (.inl ⟨HS.o,HN.o,rfl⟩),HBA.o _⟩
   ·obtain rfl:k=n:=by omega
    have hdl:decide ((k:Int)<(k:Int))=false:=by simp
    have HFT:Hid (Fits ls):=fun i hi=>HF.o i (by rw [HLEN.o] at hi;exact hi);have HR:=HRS.o wr hb;clear HF HIU HIP HRS hb;have HE:Hid (Ends ls↔(ls.getD (k - 1) du0).a=10000000):=by show Ends ls↔_;unfold Ends;rw [HLEN.o]
    have HC1:Hid (∀ W,Below wr.heap.size wr W→W.cell? ⟨b,off+(k - 1)*2,none⟩=some (zI (ls.getD (k - 1) du0).a)):=fun W hW=>((HB.o.trans (hW.mono HB.o.size)).cell (p:=⟨b,off+(k - 1)*2,none⟩) hbl).trans (HC.o (k - 1) (by omega)).1;have hsub:((k:Int) - 1)=((k - 1:Nat):Int):=by omega
    have hjm:k - 1<k:=by omega
    by_cases hri:Rises ls
    ·rw [decide_eq_true hri] at HR;have HR2:Hid (Calls Tryz.prog 114 #[.slice (some ⟨b,off,none⟩) k cap] wr fun e w'=>e = .returned (.bool true)∧Below wr.heap.size wr w'):=HR;have HRI:Hid (Rises ls):=hri;clear HR hri;go_wp2_with fail;refine HR2.o.mono ?_;rintro e w2 ⟨rfl,hw2⟩;have c1:=HC1.o w2 hw2;have HB2:=shB HB hw2;clear hw2 HR2;by_cases he:(ls.getD (k - 1) du0).a=10000000
     ·have HRT:Hid (Right ls):=⟨HS.o,HFT.o,HRI.o,HE.o.2 he⟩
      have hne:((ls.getD (k - 1) du0).a != 10000000)=false:=by rw [he];rfl
      clear he HE HC1;generalize (ls.getD (k - 1) du0).a=y at *;generalize k - 1=j1 at *;go_wp2_with fail;go_ret;exact ⟨_,rfl,.inr (.inr (.inr ⟨HRT.o,rfl⟩)),HB2.o⟩
     ·have HN:Hid (¬ (Rises ls∧Ends ls)):=fun h=>he (HE.o.1 h.2);have hne:((ls.getD (k - 1) du0).a != 10000000)=true:=by simpa using he
      clear he HE HC1;generalize (ls.getD (k - 1) du0).a=y at *;generalize k - 1=j1 at *;go_wp2_with fail;go_ret;exact ⟨_,rfl,.inr (.inr (.inl ⟨HS.o,HFT.o,HN.o,rfl⟩)),HB2.o⟩
    ·rw [decide_eq_false hri] at HR;have HR2:Hid (Calls Tryz.prog 114 #[.slice (some ⟨b,off,none⟩) k cap] wr fun e w'=>e = .returned (.bool false)∧Below wr.heap.size wr w'):=HR;have HN:Hid (¬ (Rises ls∧Ends ls)):=fun h=>hri h.1;clear HR hri;go_wp2_with fail;refine HR2.o.mono ?_;rintro e w2 ⟨rfl,hw2⟩;have HB2:=shB HB hw2;clear hw2 HR2 HE HC1;generalize k - 1=j1 at *;go_wp2_with fail;go_ret;exact ⟨_,rfl,.inr (.inr (.inl ⟨HS.o,HFT.o,HN.o,rfl⟩)),HB2.o⟩
 ·have HS:Hid (¬ Sized ls):=by show ¬ (1≤ls.length∧ls.length≤8);rw [hlen];exact hs
  have hnm:n≤9223372036854775807:=by unfold maxLen at hn;omega
  clear hr hlen hn;by_cases h0:n=0
  ·subst h0;clear hs hnm;go_enter Tryz.func68,Tryz.ntmps68;go_wp2_with fail;go_ret;exact ⟨_,rfl,.inl ⟨HS.o,rfl⟩,Below.refl _ _⟩
  ·have hd0:((n:Int) == 0)=false:=by simp;omega
   have hd8:decide ((8:Int)<(n:Int))=true:=by simp;omega
   clear hs h0;go_enter Tryz.func68,Tryz.ntmps68;go_wp2_with fail;go_ret;exact ⟨_,rfl,.inl ⟨HS.o,rfl⟩,Below.refl _ _⟩
end tar
namespace acc
open tar (Du)
open Go.RowKit
def KcGrant:Prop:=∀ (W:World) (x:Ac) (p:Option Addr) (len cap:Nat) (t:Tm) (pt:Option Addr) (lt ct:Nat) (m:Int),ACame W x p len cap→TCame W t pt lt ct→(Lit.int .i64 m).wf=true→Calls Tryz.prog 77 #[x.v p len cap,t.v pt lt ct,zI m] W fun e w'=>BPost W (GrantIs x t m) e w'
end acc
end Go.Proofs.YtnpblpbohcegoaaGreatDoor
