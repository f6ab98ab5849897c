import Derived.Test.YtnpblpbohcegoaaGreatDoorVBTed24
import Derived.Test.YtnpblpbohcegoaaGreatDoorVBTed26
import Derived.Test.YtnpblpbohcegoaaGreatDoorVBTed29
set_option linter.unusedVariables false
set_option linter.unusedSimpArgs false
set_option maxHeartbeats 4000000
set_option maxRecDepth 100000
namespace Go.Proofs.YtnpblpbohcegoaaGreatDoor
namespace cell
open Go.RowKit
theorem apply_cap (a b:Option Addr) (n m c1 c2 k:Nat) (xs:List Int) (ls:List Wr) (w:World) (h1:RowU w a n xs) (h2:RowW w b m ls) (hn:1≤n) (hn2:n≤2048) (hm:m≤4096) (hc:m≤c2) (hall:allN n ls=true) (hk:k≤m) :
  Calls Tryz.prog 22 #[.slice a n c1,.slice b m c2,zI (k:Int)] w fun e w'=>GaveC w (wrt xs (ls.take k)) 0 e w':=by
 have HM:Hid (∀ W,Calls Tryz.prog 46 #[zI (n:Int)] W fun e w'=>e = .returned (.bool true)∧w'=W):=fun W=>may_yes _ W (by omega) (by omega);have hW:=Blk.new w #[.slice a n c1] 25;have HB:Hid (Below w.heap.size w (w.alloc (.cells #[.slice a n c1] 25))):=(Below.refl _ _).alloc (Nat.le_refl _) _;have hx:=hW.cell 0;have HX:Hid (∀ W',Below (w.alloc (.cells #[.slice a n c1] 25)).heap.size (w.alloc (.cells #[.slice a n c1] 25)) W'→W'.cell? ⟨w.heap.size,0,none⟩=some (.slice a n c1)):=fun W' hb=>(hW.next hb).cell 0
 have HC:Hid (Calls Tryz.prog 48 #[.slice b m c2,fv w.heap.size] (w.alloc (.cells #[.slice a n c1] 25)) fun e w'=>e = .returned (.bool false)∧Below (w.alloc (.cells #[.slice a n c1] 25)).heap.size (w.alloc (.cells #[.slice a n c1] 25)) w'):=by
  have h:=contains_any w.heap.size n c1 m c2 a b ls (w.alloc (.cells #[.slice a n c1] 25)) hx hn2 (h2.below HB.o) hm;rw [hall] at h;exact h
 have HW:Hid (∀ W,Below w.heap.size w W→Calls Tryz.prog 49 #[.slice a n c1,.slice b k k] W fun e w'=>∃ g,e = .returned (.slice (some ⟨g,0,none⟩) n n)∧RowU w' (some ⟨g,0,none⟩) n (wrt xs (ls.take k))∧Below W.heap.size W w'):=fun W hb=>
  written_any a b n k c1 k xs (ls.take k) W (h1.below hb) ((h2.below hb).cut hk) hn hn2 (by omega) (allN_take hall k)
 clear h1 h2 hall hW;unfold fv at HC;generalize wrt xs (ls.take k)=zs at *;go_enter Tryz.func22,Tryz.ntmps22;go_wp2_with fail;refine (HM.o _).mono ?_;rintro e w1 ⟨rfl,rfl⟩;go_wp2_with fail;refine HC.o.mono ?_;rintro e w2 ⟨rfl,hb2⟩;have hx2:=HX.o _ hb2;have HB2:=shB HB hb2;have HWD:Hid (Calls Tryz.prog 49 #[.slice a n c1,.slice b k k] w2.drew fun e w'=>∃ g,e = .returned (.slice (some ⟨g,0,none⟩) n n)∧RowU w' (some ⟨g,0,none⟩) n zs∧Below w2.heap.size w2.drew w'):=HW.o _ HB2.o.drew;have KS:Hid (w2.drew.cell? ⟨w.heap.size,0,none⟩=some (.slice a n c1)):=hx2;have hGl:w.heap.size<w2.drew.heap.size:=World.block_lt_of_cell? w2 _ hx2;have HGL:Hid (w.heap.size<w2.heap.size):=hGl;clear hb2 hx HC HM HX HW hGl;have hkc:k≤c2:=by omega
 cases b with
 | none=>
  go_wp2_with fail
  go_region_held (fun v=>v.cell? ⟨w.heap.size,0,none⟩=some (.slice a n c1))
   (first | with_reducible exact KS.o | with_reducible exact K1.o)
   (first
    | (go_at_call 49;with_reducible refine HWD.o.mono ?_;rintro e w3 ⟨g,rfl,hr3,hb3⟩
       have K1:Hid (w3.cell? ⟨w.heap.size,0,none⟩=some (.slice a n c1)):=(hb3.cell (p:=⟨w.heap.size,0,none⟩) HGL.o).trans hx2;have HF:Hid (RowU w3 (some ⟨g,0,none⟩) n zs∧Below w.heap.size w w3):=⟨hr3,bel_step HB2.o.drew hb3⟩
       clear hr3 hb3))
  all_goals go_wp2_with fail
  all_goals
   go_ret2;exact GaveC.mk HF.o.1 (fun h=>by cases h) (Nat.le_refl _) HF.o.2
 | some y=>
  go_wp2_with fail
  go_region_held (fun v=>v.cell? ⟨w.heap.size,0,none⟩=some (.slice a n c1))
   (first | with_reducible exact KS.o | with_reducible exact K1.o)
   (first
    | (go_at_call 49;with_reducible refine HWD.o.mono ?_;rintro e w3 ⟨g,rfl,hr3,hb3⟩
       have K1:Hid (w3.cell? ⟨w.heap.size,0,none⟩=some (.slice a n c1)):=(hb3.cell (p:=⟨w.heap.size,0,none⟩) HGL.o).trans hx2;have HF:Hid (RowU w3 (some ⟨g,0,none⟩) n zs∧Below w.heap.size w w3):=⟨hr3,bel_step HB2.o.drew hb3⟩
       clear hr3 hb3))
  all_goals go_wp2_with fail
  all_goals
   go_ret2;exact GaveC.mk HF.o.1 (fun h=>by cases h) (Nat.le_refl _) HF.o.2
end cell
namespace vnd
open disk (RepIs AppIs May repD lenAt appW Wds)
open book (Ev ev0 EMay evL evOf EncIs DecIs Cm cm0 So so0 BookIs FirstAt NoneAt Tells billOf soldOf StepIs HapIs)
open acc (Ac Tm Bi)
open ora (Pr IssueIs)
open cell (Wr wrt RowU RowW)
open rcp (Rc rc0)
open Go.RowKit
def AppK (w:World) (n:Nat) (z:List Int) (e:Ending) (w':World):Prop:=∃ a cap,e = .returned (.tuple #[.slice a n cap,zI 0])∧Dk w' a n cap z∧Below w.heap.size w w'
theorem step_writes {t:Tm} {c:List Int} {n:Nat} {l:List Ev} {bk bk':List Cm} {v:Ev} {ls:List Wr} (h:Shop t c n l bk) (hs:Stepped t c n l bk v bk' ls) (hn:l.length<120) (hf:14*l.length+13<n):ls=appW c (14*l.length) (evL v):=
 (keep_tape h.tape h.may hs.ev hn (by rw [h.len];exact hf) hs.keep).1
theorem apply_step {t:Tm} {c:List Int} {n:Nat} {l:List Ev} {bk bk':List Cm} {v:Ev} {ls:List Wr} (h:Shop t c n l bk) (hs:Stepped t c n l bk v bk' ls) (hn:l.length<120) (hf:14*l.length+13<n) (a b:Option Addr) (m c1 c2 k:Nat) (w:World) (hd:Dk w a n c1 c) (hw:RowW w b m ls) (hc:m≤c2) (hk:k≤m) :
  Calls Tryz.prog 22 #[.slice a n c1,.slice b m c2,zI (k:Int)] w fun e w'=>AppK w n (wrt c (ls.take k)) e w':=by
 have hls:=step_writes h hs hn hf;subst hls;have hcl:c.length=n:=h.len;have hm1:=h.tape.1.1;have hm2:=h.tape.1.2
 have hm:m≤4096:=by
  have h1:=hw.1;rw [disk.app_len,book.evL_len] at h1;split at h1 <;> omega
 refine (cell.apply_cap a b n m c1 c2 k c _ w hd.row hw (by omega) (by omega) hm hc (by rw [← hcl];exact disk.app_in c (evL v) _ (by rw [book.evL_len];omega)) hk).mono ?_;rintro e' w' ⟨a',cap',he,hrow,hnil,hroom,hb⟩;rw [cell.wrt_len,hcl] at he hrow hroom;exact ⟨a',cap',he,⟨hrow,hnil,hroom,by omega,disk.wds_wrt hd.wd _ (disk.wrs_take (disk.wrs_app (book.may_word hs.ev) (rmay_ev v) _) k)⟩,hb⟩
theorem some_writes {t:Tm} {c:List Int} {n:Nat} {l:List Ev} {bk bk':List Cm} {v:Ev} {ls:List Wr} (hs:Stepped t c n l bk v bk' ls) {w:World} {b:Option Addr} {m:Nat} (hw:RowW w b m ls):1≤m:=by
 have h1:=hs.some;have h2:=hw.1;cases ls with
 | nil=>exact absurd rfl h1
 | cons x l=>simp at h2;omega
theorem all_writes {w:World} {b:Option Addr} {m:Nat} {ls:List Wr} (hw:RowW w b m ls):ls.take m=ls:=List.take_of_length_le (by rw [hw.1];exact Nat.le_refl _)
theorem blank_dk {w:World} {a:Option Addr} {n cap:Nat} (hn:n≤2048) (hr:RowU w a n (List.replicate n 0)) (h0:a=none→cap=0) (h1:n≤cap):Dk w a n cap (List.replicate n 0):=⟨hr,h0,h1,by omega,disk.wds_zero n⟩
theorem dk_far {w:World} {a:Option Addr} {n cap:Nat} {c:List Int} {B:Nat} {cs:Array Value} {T:TypeId} (h:Dk w a n cap c) (hB:Blk w B cs T) (hno:∀ (j:Nat) (z:Int),cs[j]?≠some (Value.int .u32 z)):0<n→∀ y,a=some y→y.block≠B:=fun hn y hy hb=>by
 obtain ⟨b,off,rfl,_,hc⟩:=h.row.at hn;cases hy;have h1:=hc 0 hn;simp only [] at hb;subst hb;rw [hB.cell] at h1;exact hno _ _ h1
theorem dk_upd {w W:World} {a:Option Addr} {n cap:Nat} {c:List Int} {B:Nat} {cs:Array Value} {T:TypeId} (h:Dk w a n cap c) (hU:Upd w W B cs T) (hf:0<n→∀ y,a=some y→y.block≠B):Dk W a n cap c:=by
 refine ⟨⟨h.row.1,?_⟩,h.nil,h.room,h.bytes,h.wd⟩;by_cases h0:n=0
 ·exact .inl h0
 ·obtain ⟨b,off,rfl,_,hc⟩:=h.row.at (by omega);exact .inr ⟨b,off,rfl,fun i hi=>(hU.cell ⟨b,off+i,none⟩ (show b≠B from hf (by omega) ⟨b,off,none⟩ rfl) rfl).trans (hc i hi)⟩
theorem issue_len {l:List Pr} {m r b d:Int} {ls:List Pr} {x c:Int} (h:IssueIs l m r b d ls x c):ls.length≤l.length+1:=by
 rcases h with ⟨_,rfl,_⟩ | ⟨_,_,rfl,_⟩ | ⟨_,_,_,rfl,_⟩ | ⟨_,_,_,_,rfl,_⟩ | ⟨_,_,_,_,rfl,_⟩ <;> simp
theorem tok_len {kd:Int} {t:Tm} {c:List Int} {o:List Pr} {me te mo dr:Int} {ls:List Wr} {o':List Pr} {r:Rc} {f:Int} (h:TokIs kd t c o me te mo dr ls o' r f):o'.length≤o.length+1:=by
 by_cases hf:f=0
 ·obtain ⟨bk,g,_,⟨p,q⟩ | ⟨_,_,q⟩ | ⟨_,k,b,l,x,_,_,⟨p,q⟩ | ⟨_,o2,tg,g2,hi,⟨p,q⟩ | ⟨_,l2,g3,_,⟨p,q⟩ | ⟨_,_,rfl,_,_⟩⟩⟩⟩⟩:=h
  ·rw [q.2.1];simp
  ·rw [q.2.1];simp
  ·rw [q.2.1];simp
  ·rw [q.2.1];simp
  ·rw [q.2.1];simp
  ·exact issue_len hi
 ·rw [(tok_no h hf).2.1];simp
theorem served_len {t:Tm} {c:List Int} {o:List Pr} {x:Od} {ls:List Wr} {o':List Pr} {r:Rc} {f:Int} (hs:ServedIs t c o x ls o' r f):o'.length≤o.length+1:=by
 rcases hs with ⟨_,_,rfl,_⟩ | ⟨_,hc⟩ | ⟨_,hc⟩ | ⟨_,hc⟩
 ·omega
 ·exact tok_len hc
 ·exact tok_len hc
 ·exact tok_len hc
theorem came_of {w:World} {a:Option Addr} {n cap:Nat} {l:List Pr} (h:ora.RowP w a n l) (h0:a=none→cap=0) (h1:n≤cap) (hl:l.length≤100000):ora.Came w a n cap l:=⟨h,h0,h1,by have:=h.1;omega⟩
theorem came_upd {w W:World} {a:Option Addr} {n cap:Nat} {l:List Pr} {B:Nat} {cs:Array Value} {T:TypeId} (h:ora.Came w a n cap l) (hU:Upd w W B cs T) (hf:0<n→∀ y,a=some y→y.block≠B):ora.Came W a n cap l:=⟨rowP_updK h.row hU hf,h.nil,h.le,h.small⟩
end vnd
namespace disk
open Go.RowKit cell
def JR (w:World) (c:List Int) (k:Nat) (W:World):Prop:=∃ V sl,Box w w.heap.size V sl (itD c k).1 W
theorem kreplay:KReplay:=by
 intro w a n cap c h hnil hcap hby hw;have H0:JR w c 0 (w.alloc (.cells #[zS] 104)):=⟨zS,[],Blk.new _ _ _,Lr.zero _ _ _,Recs.nil _ _,(fun i hi=>by cases hi),(Below.refl _ _).alloc (Nat.le_refl _) _⟩
 have HE:Hid (Calls Tryz.prog 62 #[.slice a n cap,.func (.func 63) #[] #[.pointer (some ⟨w.heap.size,0,none⟩)]] (w.alloc (.cells #[zS] 104)) fun e w'=>EPost (JR w c) c e w'):=by
  refine each_any 63 #[.pointer (some ⟨w.heap.size,0,none⟩)] (JR w c) a n cap c _ (fun k W hj=>?_) H0 hcap hw (fun _ _=>by kernel_rfl) ?_
  ·obtain ⟨V,sl,hb⟩:=hj;exact h.below hb.bel
  ·intro k p m b o W hj hp hit hr h1 h2 h3;obtain ⟨V,sl,hb⟩:=hj;have hs:sl.length≤1000000:=by have:=hb.recs.1;have:=it_count c k;omega
   refine (put_record w w.heap.size V sl _ (recAt c p) b o m W hb hr h1 h2 hs).mono ?_;rintro e w' ⟨rfl,V',sl',hb'⟩;refine ⟨rfl,V',sl',?_⟩;rw [hit];exact hb'
 clear H0 h hnil hcap hby hw;go_enter Tryz.func35,Tryz.ntmps35;go_wp2_with fail;refine HE.o.mono ?_;rintro e w1 ⟨x,f,k,rfl,⟨V,sl,hb⟩,hi⟩;have HB:Hid (Box w w.heap.size V sl (itD c k).1 w1):=hb;have HI:Hid ((¬ May c∧x=0∧f=1)∨(May c∧lenAt c (repD c).2<0∧x=0∧f=3)∨(May c∧lenAt c (repD c).2=0∧repD c=itD c k∧x=((repD c).2:Int)∧f=0)):=hi;clear hb hi HE;by_cases hf:f=0
 ·have HR:Hid (RepIs c (itD c k).1 x 0):=by
   rcases HI.o with ⟨_,_,e⟩ | ⟨_,_,_,e⟩ | ⟨q1,q2,q3,q4,_⟩
   ·rw [hf] at e;exact absurd e (by decide)
   ·rw [hf] at e;exact absurd e (by decide)
   ·exact .inr (.inr ⟨q1,q2,by rw [q3],q4,rfl⟩)
  have q0:w1.cell? ⟨w.heap.size,0,none⟩=some V:=HB.o.blk.cell 0;obtain ⟨va,vc,hV,hrd⟩:=HB.o.reads;have HRD:Hid (ReadsF w1 w.heap.size va (itD c k).1.length (itD c k).1):=hrd;have HBL:Hid (Below w.heap.size w w1):=HB.o.bel;subst hf;subst hV;clear hrd HB HI;generalize (itD c k).1=zs at *;have HFW:Hid (zs.length≤100000):=Nat.le_trans (rep_few HR.o).1 (by decide);generalize hzl:zs.length=zl at *;clear hzl;go_wp2_with fail;go_ret3;exact ⟨va,_,vc,zs,x,0,rfl,HRD.o,HFW.o,HR.o,HBL.o⟩
 ·have HR:Hid (RepIs c [] 0 f):=by
   rcases HI.o with ⟨q1,_,e⟩ | ⟨q1,q2,_,e⟩ | ⟨_,_,_,_,e⟩
   ·exact .inl ⟨q1,rfl,rfl,e⟩
   ·exact .inr (.inl ⟨q1,q2,rfl,rfl,e⟩)
   ·exact absurd e hf
  have HBL:Hid (Below w.heap.size w w1):=HB.o.bel;have hne:(f != 0)=true:=by simpa using hf
  clear HB HI hf;go_wp2_with fail;go_ret3;exact ⟨none,0,0,[],0,f,rfl,⟨rfl,.inl rfl⟩,Nat.zero_le _,HR.o,HBL.o⟩
end disk
namespace ora
open Go.RowKit
def GaveV (w:World) (l:List Pr) (e:Ending) (w':World):Prop:=∃ v,e = .returned v∧Pw w' w.heap.size v l∧Below w.heap.size w w'
theorem pclone_some (x:Addr) (len cap:Nat) (l:List Pr) (w:World) (hr:RowP w (some x) len l) (hl:len≤1000) :
  Calls Tryz.prog 190 #[.slice (some x) len cap] w fun e w'=>GaveV w l e w':=by
 obtain ⟨i0,hi,hz0,hz1,hz2⟩:=info_parts info_pr;obtain ⟨hz,hr⟩:=hr;have HO:Hid ((w.alloc (.cells #[] 279)).ownsRow w.heap.size 279 4 (.slice (some ⟨w.heap.size,0,none⟩) 0 0) 0 []):=World.ownsRow_lit w #[] 0 (Nat.le_refl _) (by unfold maxLen;omega) rfl;have HSZ:Hid (w.heap.size≤(w.alloc (.cells #[] 279)).heap.size):=palloc_le (Nat.le_refl _) _;have heq:∀ W:World,(binOp BinOp.eql 37 (.slice (some x) len cap) (zS)).run Tryz.prog W = .ok (.bool false) W:=fun W=>by kernel_rfl
 go_enter Tryz.func190,Tryz.ntmps190
 go_wp2_with (first
  | (at_builtin;refine wpList_append_own _ rfl _ _ 37 rfl w.heap.size 279 i0 (.agg #[zI 0,zI 0,zI 0,zI 0]) 4 32 Tryz.underlying37 hi hz0 hz1 hz2 rfl (by decide) _ _ _ rfl HO.o x len cap (cellsP l) rfl ?c0 ?c1 ?c2 ?c3 ?c4 HSZ.o ?_)
  | go_in)
 case c0=>rw [cellsP_len,hz]
 case c1=>
  intro j u hu;rcases hr with h | ⟨b,off,h,hc⟩
  ·have:l=[]:=List.length_eq_zero_iff.1 (by omega);subst this;simp [cellsP] at hu
  ·obtain rfl:=Option.some.inj h;have:=cellsP_get hz hc j u hu;rw [Addr.add_lit,World.cell?_alloc_lt w _ _ (World.block_lt_of_cell? w _ this)];exact this
 case c2=>exact oneP l
 case c3=>unfold maxLen;omega
 case c4=>omega
 intro v' w' hown hg _;have HW:Hid (Pw w' w.heap.size v' l):=by show w'.ownsRow _ _ _ _ _ _;rw [hz];simpa using hown
 have HG:Hid (Below w.heap.size w w'):=pown_bel HO.o hg ((Below.refl _ _).alloc (Nat.le_refl _) _) (Nat.le_refl _) HSZ.o;clear hown hg;go_wp2;go_ret;exact ⟨v',rfl,HW.o,HG.o⟩
theorem pclone_none (cap:Nat) (w:World) :
  Calls Tryz.prog 190 #[.slice none 0 cap] w fun e w'=>GaveV w [] e w':=by
 have heq:∀ W:World,(binOp BinOp.eql 37 (.slice none 0 cap) (zS)).run Tryz.prog W = .ok (.bool true) W:=fun W=>by kernel_rfl
 go_enter Tryz.func190,Tryz.ntmps190;go_wp2_with fail;go_ret;exact ⟨_,rfl,Pw.zero _ _,Below.refl _ _⟩
theorem pclone_any (a:Option Addr) (len cap:Nat) (l:List Pr) (w:World) (hr:RowP w a len l) (hl:len≤1000) :
  Calls Tryz.prog 190 #[.slice a len cap] w fun e w'=>GaveV w l e w':=by
 cases a with
 | some x=>exact pclone_some x len cap l w hr hl
 | none=>
  have h0:len=0:=by
   rcases hr.2 with h | ⟨_,_,h,_⟩
   ·exact h
   ·cases h
  subst h0;have:l=[]:=List.length_eq_zero_iff.1 hr.1;subst this;exact pclone_none cap w
end ora
namespace vnd
open disk (RepIs AppIs)
open book (Ev ev0 EMay evL evOf EncIs DecIs Cm cm0 So so0 BookIs Sees ECame FirstAt NoneAt)
open acc (Ac Tm Bi TCame ACame)
open cell (Wr RowU)
open Go.RowKit
theorem enc_yes {v:Ev} {ws:List Int} {g:Int} (h:EncIs v ws g) (hv:EMay v):(∀ x∈ws,0≤x∧x<4294967296)∧g=0:=by
 rcases h with ⟨_,rfl,rfl⟩ | ⟨n,_⟩
 ·exact ⟨book.may_word hv,rfl⟩
 ·exact absurd hv n
theorem pkeep (p2:Option Addr) (m2 c2:Nat) (a:Option Addr) (n cap:Nat) (c:List Int) (l:List Ev) (v:Ev) (w:World) (h:Dk w a n cap c) (hk:KeptIs c l 0) (hl:l.length≤120) (hv:EMay v):Calls Tryz.prog 61 #[.agg #[.slice p2 m2 c2,.slice a n cap,zI (l.length:Int)],.agg #[zI v.kd,zI v.me,zI v.mo,zI v.id,zI v.te,zI v.de,zI v.fe,zI v.pr,zI v.ch,zI v.un,zI v.tg,zI v.ow,zI v.bp]] w fun e w'=>WrGot w (KeepIs c v) e w':=by
 have HC:Hid (∀ W,Below w.heap.size w W→Dk W a n cap c):=fun W hW=>h.below hW;have HKI:Hid (KeptIs c l 0):=hk;have HV:Hid (EMay v):=hv;clear h hk hv;obtain ⟨W0,HWW,H0s,H0v,H0B,hs0⟩:=sh2 w #[.slice p2 m2 c2,.slice a n cap,zI (l.length:Int)] 87 #[zI v.kd,zI v.me,zI v.mo,zI v.id,zI v.te,zI v.de,zI v.fe,zI v.pr,zI v.ch,zI v.un,zI v.tg,zI v.ow,zI v.bp] 72;go_enter Tryz.func61,Tryz.ntmps61;go_upto_region 1 with fail
 rw [HWW.o];clear HWW;by_cases h1:l.length=120
 ·have d1:((l.length:Int) == 120)=true:=by simp;omega
  have HF:Hid (KeepIs c v [] 16):=⟨l,0,HKI.o,.inl ⟨by omega,rfl,rfl⟩⟩
  clear h1;have qs2:W0.cell? ⟨w.heap.size,2,none⟩=some (zI (l.length:Int)):=H0s.o.cell 2
  go_wp2_with (first
   | (refine zqw rfl rfl rfl H0s zqu87 ?_)
   | (refine zqw rfl rfl rfl H0v zqu72 ?_)
   | fail)
  go_ret2;exact ⟨none,0,0,[],16,rfl,HF.o,⟨rfl,.inl rfl⟩,(fun x hx=>by cases hx),Nat.le_refl _,Nat.zero_le _,H0B.o⟩
 ·have d1:((l.length:Int) == 120)=false:=by simp;omega
  have hl2:Hid (l.length<120):=(by omega:l.length<120)
  clear h1 hl;have HEN:Hid (Calls Tryz.prog 107 #[.agg #[zI v.kd,zI v.me,zI v.mo,zI v.id,zI v.te,zI v.de,zI v.fe,zI v.pr,zI v.ch,zI v.un,zI v.tg,zI v.ow,zI v.bp]] W0 fun e w'=>book.EncGot W0 v e w'):=book.kenc W0 v (book.wf_may HV.o);have qs2:W0.cell? ⟨w.heap.size,2,none⟩=some (zI (l.length:Int)):=H0s.o.cell 2
  go_wp2_with (first
   | (refine zqw rfl rfl rfl H0s zqu87 ?_)
   | (refine zqw rfl rfl rfl H0v zqu72 ?_)
   | fail)
  refine HEN.o.mono ?_;rintro e w1 ⟨ra,rn,rc,ws,g,rfl,hen,hrw,hrn,hrc,hr13,hb1⟩;have H1s:=shN H0s hb1;have H1v:=shN H0v hb1;have H1B:=shB H0B hb1;have hsw1:W0.heap.size≤w1.heap.size:=hb1.size;clear hb1 H0s H0v H0B;clear qs2;obtain ⟨hws,rfl⟩:=enc_yes hen HV.o;have HEI:Hid (EncIs v ws 0):=hen;clear hen HEN;have HAP:Hid (Calls Tryz.prog 108 #[.slice a n cap,.slice ra rn rc] w1 fun e w'=>disk.AppGot w1 c ws e w'):=(fun d:Dk w1 a n cap c=>disk.kappend w1 a n cap c ra rn rc ws d.row d.nil d.room d.bytes d.wd hrw hrn hrc (by omega) hws) (HC.o _ H1B.o)
  clear hrw hrn hrc hws;have qs1:w1.cell? ⟨w.heap.size,1,none⟩=some (.slice a n cap):=H1s.o.cell 1
  go_wp2_with (first
   | (refine zqw rfl rfl rfl H1s zqu87 ?_)
   | (refine zqw rfl rfl rfl H1v zqu72 ?_)
   | fail)
  refine HAP.o.mono ?_;rintro e w2 ⟨p3,m3,c3,ls,f3,rfl,hrow,hnew,hle,hsm,hai,hb2⟩;have H2s:=shN H1s hb2;have H2v:=shN H1v hb2;have H2B:=shB H1B hb2;have hsw2:w1.heap.size≤w2.heap.size:=hb2.size;clear hb2 H1s H1v H1B;clear qs1;have HF:Hid (KeepIs c v ls f3):=⟨l,0,HKI.o,.inr ⟨hl2.o,ws,0,HEI.o,.inr ⟨rfl,hai⟩⟩⟩
  have HRW:Hid (cell.RowW w2 p3 m3 ls):=hrow;have HNW:Hid (∀ x,p3=some x→w.heap.size≤x.block):=fun x hx=>Nat.le_trans (by omega) (hnew x hx);clear hrow hnew hai HAP HEI HKI HC hl2;go_wp2_with fail;go_ret2;exact ⟨p3,m3,c3,ls,f3,rfl,HF.o,HRW.o,HNW.o,hle,hsm,H2B.o⟩
end vnd
end Go.Proofs.YtnpblpbohcegoaaGreatDoor
