import Derived.Test.YtdpfnedfakgolaaGreatDoorVVPer23
import Derived.Test.YtdpfnedfakgolaaGreatDoorVVPer25
import Derived.Test.YtdpfnedfakgolaaGreatDoorVVPer31
set_option linter.unusedVariables false
set_option linter.unusedSimpArgs false
set_option maxHeartbeats 4000000
set_option maxRecDepth 100000
namespace Go.Proofs.YtdpfnedfakgolaaGreatDoor
namespace vnd
open book (Ev ev0 Cm cm0 So so0 Sees)
open acc (Ac Tm Bi)
open ora (Pr)
open cell (Wr RowU RowW)
open rcp (Rc rc0)
open Go.RowKit
theorem served_any {w:World} (K0:KvCha) (K1:KvGrant w) (K2:KvRekey w) (K3:KvSell w) (t:Tm) (pt:Option Addr) (lt ct:Nat) (a:Option Addr) (n cap:Nat) (c:List Int) (ao:Option Addr) (no ko:Nat) (o:List Pr) (x:Od) (ht:acc.TCame w t pt lt ct) (h:Dk w a n cap c) (ho:ora.Came w ao no ko o) (hx:wf5 x):Calls Tryz.prog 8 #[.agg #[.slice pt lt ct,zI t.ff,zI t.fb,zI t.db,zI t.al,.slice a n cap,.slice ao no ko],.agg #[zI x.k,zI x.m,zI x.a,zI x.b,zI x.d]] w fun e w'=>ServePost w ao no (ServedIs t c o x) e w':=by
 by_cases h0:check.pick x.k 8=0
 ·exact served0 K0 t pt lt ct a n cap c ao no ko o x w ht h ho hx h0
 ·by_cases h1:check.pick x.k 8=1
  ·exact served1 K1 t pt lt ct a n cap c ao no ko o x ht h ho hx h1
  ·by_cases h2:check.pick x.k 8=2
   ·exact served2 K2 t pt lt ct a n cap c ao no ko o x ht h ho hx h2
   ·exact served3 K3 t pt lt ct a n cap c ao no ko o x ht h ho hx ⟨h0,h1,h2⟩
end vnd
namespace cell
open Go.RowKit
theorem apply_cap (a b:Option Addr) (n m c1 c2 k:Nat) (xs:List Int) (ls:List Wr) (w:World) (h1:RowU w a n xs) (h2:RowW w b m ls) (hn:1≤n) (hn2:n≤2048) (hm:m≤4096) (hc:m≤c2) (hall:allN n ls=true) (hk:k≤m) :
  Calls Tryz.prog 14 #[.slice a n c1,.slice b m c2,zI (k:Int)] w fun e w'=>GaveC w (wrt xs (ls.take k)) 0 e w':=by
 have HM:Hid (∀ W,Calls Tryz.prog 38 #[zI (n:Int)] W fun e w'=>e = .returned (.bool true)∧w'=W):=fun W=>may_yes _ W (by omega) (by omega);have hW:=Blk.new w #[.slice a n c1] 31;have HB:Hid (Below w.heap.size w (w.alloc (.cells #[.slice a n c1] 31))):=(Below.refl _ _).alloc (Nat.le_refl _) _;have hx:=hW.cell 0;have HX:Hid (∀ W',Below (w.alloc (.cells #[.slice a n c1] 31)).heap.size (w.alloc (.cells #[.slice a n c1] 31)) W'→W'.cell? ⟨w.heap.size,0,none⟩=some (.slice a n c1)):=fun W' hb=>(hW.next hb).cell 0
 have HC:Hid (Calls Tryz.prog 40 #[.slice b m c2,fv w.heap.size] (w.alloc (.cells #[.slice a n c1] 31)) fun e w'=>e = .returned (.bool false)∧Below (w.alloc (.cells #[.slice a n c1] 31)).heap.size (w.alloc (.cells #[.slice a n c1] 31)) w'):=by
  have h:=contains_any w.heap.size n c1 m c2 a b ls (w.alloc (.cells #[.slice a n c1] 31)) hx hn2 (h2.below HB.o) hm;rw [hall] at h;exact h
 have HW:Hid (∀ W,Below w.heap.size w W→Calls Tryz.prog 41 #[.slice a n c1,.slice b k k] W fun e w'=>∃ g,e = .returned (.slice (some ⟨g,0,none⟩) n n)∧RowU w' (some ⟨g,0,none⟩) n (wrt xs (ls.take k))∧Below W.heap.size W w'):=fun W hb=>
  written_any a b n k c1 k xs (ls.take k) W (h1.below hb) ((h2.below hb).cut hk) hn hn2 (by omega) (allN_take hall k)
 clear h1 h2 hall hW;unfold fv at HC;generalize wrt xs (ls.take k)=zs at *;go_enter Tryz.func14,Tryz.ntmps14;go_wp2_with fail;refine (HM.o _).mono ?_;rintro e w1 ⟨rfl,rfl⟩;go_wp2_with fail;refine HC.o.mono ?_;rintro e w2 ⟨rfl,hb2⟩;have hx2:=HX.o _ hb2;have HB2:=shB HB hb2;have HWD:Hid (Calls Tryz.prog 41 #[.slice a n c1,.slice b k k] w2.drew fun e w'=>∃ g,e = .returned (.slice (some ⟨g,0,none⟩) n n)∧RowU w' (some ⟨g,0,none⟩) n zs∧Below w2.heap.size w2.drew w'):=HW.o _ HB2.o.drew;have KS:Hid (w2.drew.cell? ⟨w.heap.size,0,none⟩=some (.slice a n c1)):=hx2;have hGl:w.heap.size<w2.drew.heap.size:=World.block_lt_of_cell? w2 _ hx2;have HGL:Hid (w.heap.size<w2.heap.size):=hGl;clear hb2 hx HC HM HX HW hGl;have hkc:k≤c2:=by omega
 cases b with
 | none=>
  go_wp2_with fail
  go_region_held (fun v=>v.cell? ⟨w.heap.size,0,none⟩=some (.slice a n c1))
   (first | with_reducible exact KS.o | with_reducible exact K1.o)
   (first
    | (go_at_call 41;with_reducible refine HWD.o.mono ?_;rintro e w3 ⟨g,rfl,hr3,hb3⟩
       have K1:Hid (w3.cell? ⟨w.heap.size,0,none⟩=some (.slice a n c1)):=(hb3.cell (p:=⟨w.heap.size,0,none⟩) HGL.o).trans hx2;have HF:Hid (RowU w3 (some ⟨g,0,none⟩) n zs∧Below w.heap.size w w3):=⟨hr3,bel_step HB2.o.drew hb3⟩
       clear hr3 hb3))
  all_goals go_wp2_with fail
  all_goals
   go_ret2;exact GaveC.mk HF.o.1 (fun h=>by cases h) (Nat.le_refl _) HF.o.2
 | some y=>
  go_wp2_with fail
  go_region_held (fun v=>v.cell? ⟨w.heap.size,0,none⟩=some (.slice a n c1))
   (first | with_reducible exact KS.o | with_reducible exact K1.o)
   (first
    | (go_at_call 41;with_reducible refine HWD.o.mono ?_;rintro e w3 ⟨g,rfl,hr3,hb3⟩
       have K1:Hid (w3.cell? ⟨w.heap.size,0,none⟩=some (.slice a n c1)):=(hb3.cell (p:=⟨w.heap.size,0,none⟩) HGL.o).trans hx2;have HF:Hid (RowU w3 (some ⟨g,0,none⟩) n zs∧Below w.heap.size w w3):=⟨hr3,bel_step HB2.o.drew hb3⟩
       clear hr3 hb3))
  all_goals go_wp2_with fail
  all_goals
   go_ret2;exact GaveC.mk HF.o.1 (fun h=>by cases h) (Nat.le_refl _) HF.o.2
end cell
namespace book
open Go.RowKit
theorem cellsE_app (l m:List Ev):cellsE (l++m)=cellsE l++cellsE m:=by
 induction l with
 | nil=>rfl
 | cons e l ih=>rw [List.cons_append,cellsE,cellsE,ih,List.append_assoc]
def Le (w:World) (base:Nat) (v:Value) (l:List Ev):Prop:=w.ownsRow base 125 13 v l.length (cellsE l)
theorem Le.alloc {w:World} {base:Nat} {v:Value} {l:List Ev} (h:Le w base v l) (o:Obj):Le (w.alloc o) base v l:=World.ownsRow.alloc h o
theorem Le.next {w w':World} {base:Nat} {v:Value} {l:List Ev} (h:Le w base v l) (hb:Below w.heap.size w w'):Le w' base v l:=by
 refine ⟨h.1,?_⟩;rcases h.2 with hn | ⟨g,cap,cur,hv,hg,hc,rest⟩
 ·exact .inl hn
 ·exact .inr ⟨g,cap,cur,hv,hg,Blk.next hc hb,rest⟩
theorem Le.came {w:World} {base:Nat} {v:Value} {l:List Ev} (h:Le w base v l) (hl:l.length≤100000) (hw:∀ x∈l,wf13 x):∃ a cap,v = .slice a l.length cap∧ECame w a l.length cap l:=by
 rcases h.2 with ⟨hv,hn⟩ | ⟨g,cap,cur,hv,_,hc,h1,_⟩
 ·exact ⟨none,0,by rw [hn];exact hv,⟨⟨rfl,.inl hn⟩,fun _=>rfl,by omega,by omega,hw⟩⟩
 ·subst hv;refine ⟨_,cap,rfl,⟨⟨rfl,.inr ⟨g,0,rfl,Blk.lt hc,fun i j hi hj=>?_⟩⟩,(fun h=>by cases h),h1,by omega,hw⟩⟩;have e1:=World.ownsRow.cellAt h (i*13+j) (by omega);rw [Nat.zero_add,e1];exact cellsE_at l i j hi hj
theorem wp_ev {w:World} {ops:Array Oper} {rest:List Oper} {o:Oper} {a:Act} {Q:Exit→Act→World→Prop} (hgd:o.guard=none) (s x:Operand)
  (ho:o.op = .call { callee:= .builtin .append,args:=#[s,x],argTypes:=#[126,126] })
  (base G:Nat) (v:Value) (l:List Ev) (r:Ev) (hs:a.eval s=v) (hx:a.eval x = .slice (some ⟨G,0,none⟩) 1 1) (hv:Le w base v l) (hu:Blk w G r.cl.toArray 125) (hn:l.length≤1000000) (hbase:base≤w.heap.size)
  (h:∀ v' w',Le w' base v' (l++[r])→w.grownBy w' v.ownBlock→wpList Tryz.prog ops Q rest (a.put o.dst v') w'):wpList Tryz.prog ops Q (o :: rest) a w:=by
 obtain ⟨i0,hi,hz0,hz1,hz2⟩:=info_parts evI;refine wpList_append_own w hgd s x 126 ho base 125 i0 (.agg ev0.cl.toArray) 13 104 Tryz.underlying126 hi hz0 hz1 hz2 rfl (by decide) v l.length (cellsE l) hs hv ⟨G,0,none⟩ 1 1 (cellsE [r]) hx (by rw [cellsE_len];rfl) ?_ (oneE [r]) (by unfold maxLen;omega) (by omega) hbase ?_
 ·intro j u hj;rw [Addr.add_lit,Nat.zero_add,hu.cell j];rw [cellsE,cellsE,List.append_nil] at hj;simpa using hj
 intro v' w' h1 h2 _;refine h v' w' ?_ h2;unfold Le;rw [List.length_append,cellsE_app];exact h1
end book
namespace vnd
open disk (RepIs AppIs)
open book (Ev ev0 EMay evL evOf EncIs DecIs Cm cm0 So so0 BookIs Sees ECame FirstAt NoneAt)
open acc (Ac Tm Bi TCame ACame)
open cell (Wr RowU)
open Go.RowKit
theorem info_ev:∃ i,Tryz.prog.info? 125=some i∧i.zero=some (.agg #[zI 0,zI 0,zI 0,zI 0,zI 0,zI 0,zI 0,zI 0,zI 0,zI 0,zI 0,zI 0,zI 0])∧i.size=13∧i.bytes=104:=info_parts (by kernel_rfl)
theorem make_ev (N:Nat) (h:N≤100000) (w:World):(Instr.makeSlice 126 (zI 0) (zI (N:Int))).run Tryz.prog w = .ok (.slice (some ⟨w.heap.size,0,none⟩) 0 N) (w.alloc (.cells (madeCells (Value.agg #[zI 0,zI 0,zI 0,zI 0,zI 0,zI 0,zI 0,zI 0,zI 0,zI 0,zI 0,zI 0,zI 0]).cells (N*13)) 125)):=by
 obtain ⟨i0,hi,hz0,hz1,hz2⟩:=info_ev;have:=run_make (P:=Tryz.prog) w 126 125 i0 (.agg #[zI 0,zI 0,zI 0,zI 0,zI 0,zI 0,zI 0,zI 0,zI 0,zI 0,zI 0,zI 0,zI 0]) Tryz.underlying126 hi hz0 .i64 .i64 0 (N:Int) (by omega) (by omega) (by rw [hz2];omega) (by omega);rw [hz1,show (N:Int).toNat=N by omega] at this;exact this
theorem pevents (a:Option Addr) (n cap:Nat) (c:List Int) (w:World) (h:Dk w a n cap c):Calls Tryz.prog 44 #[.slice a n cap] w fun e w'=>KeptPost w c e w':=by
 have HRE:Hid (Calls Tryz.prog 72 #[.slice a n cap] w fun e w'=>disk.RepNew w c e w'):=disk.kreplay w a n cap c h.row h.nil h.room h.bytes h.wd;have HW:Hid (∀ x∈c,0≤x∧x<4294967296):=h.wd;clear h;go_enter Tryz.func44,Tryz.ntmps44;go_wp2_with fail;refine HRE.o.mono ?_;rintro e w1 ⟨ra,N,rc,o,x,f,rfl,hrd,hn,hri,hb1⟩;have HB1:Hid (Below w.heap.size w w1):=hb1;have HRI:Hid (RepIs c o x f):=hri;have HRD:Hid (disk.ReadsF w1 w.heap.size ra N o):=hrd;have HOL:Hid (o.length=N):=hrd.1;have hol:N≤2048:=by rw [← hrd.1];exact rep_len hri
 clear hrd hri hb1 HRE hn;by_cases h0:f=0
 ·subst h0;have hmk:=make_ev N (by omega) w1;have HL0:Hid (book.Le (w1.alloc (.cells (madeCells (Value.agg #[zI 0,zI 0,zI 0,zI 0,zI 0,zI 0,zI 0,zI 0,zI 0,zI 0,zI 0,zI 0,zI 0]).cells (N*13)) 125)) w1.heap.size (.slice (some ⟨w1.heap.size,0,none⟩) 0 N) []):=World.ownsRow_made w1 _ N (Nat.le_refl _) (by unfold maxLen;omega) (size_madeCells _ _);have HB0:Hid (Below w1.heap.size w1 (w1.alloc (.cells (madeCells (Value.agg #[zI 0,zI 0,zI 0,zI 0,zI 0,zI 0,zI 0,zI 0,zI 0,zI 0,zI 0,zI 0,zI 0]).cells (N*13)) 125))):=(Below.refl _ _).alloc (Nat.le_refl _) _;generalize (w1.alloc (.cells (madeCells (Value.agg #[zI 0,zI 0,zI 0,zI 0,zI 0,zI 0,zI 0,zI 0,zI 0,zI 0,zI 0,zI 0,zI 0]).cells (N*13)) 125))=W0 at *;go_wp2_with fail;clear hmk;go_loopw [7,26] (fun u z wr=>∃ (k:Nat) (U:Value),k≤N∧z=zI (k:Int)∧U=u∧book.Le wr w1.heap.size U ((o.take k).map evOf)∧(∀ j,j<k→DecOk (o.getD j []))∧Below w1.heap.size w1 wr) (fun _ z _=>N - (intOf z).toNat)
  case atStart=>exact ⟨0,_,Nat.zero_le _,rfl,rfl,HL0.o,(fun j hj=>absurd hj (Nat.not_lt_zero _)),HB0.o⟩
  case round=>
   obtain ⟨k,U,hk,rfl,hU,hle,hok,hb⟩:=hrel;subst hU;have HLE:Hid (book.Le wr w1.heap.size U ((o.take k).map evOf)):=hle;have HOK:Hid (∀ j,j<k→DecOk (o.getD j [])):=hok;have HBR:Hid (Below w1.heap.size w1 wr):=hb;clear HL0 HB0;by_cases hlt:k<N
   ·have hdl:decide ((k:Int)<(N:Int))=true:=by simp;omega
    have hko:k<o.length:=by rw [HOL.o];exact hlt
    obtain ⟨g,off,rfl,_,hgl,hgc⟩:=HRD.o.2.resolve_left (by omega);obtain ⟨s,h1,h2,h3,_⟩:=hgc k hlt;have ck:wr.cell? ⟨g,off+k,none⟩=some (.slice s.a s.n s.c):=(hb.cell (p:=⟨g,off+k,none⟩) hgl).trans h1;have HDE:Hid (Calls Tryz.prog 73 #[.slice s.a s.n s.c] wr fun e w'=>book.DecGot wr (o.getD k []) e w'):=book.kdec wr s.a s.n s.c _ (h2.below hb) h3.2.2 h3.2.1 (by have:=h3.1;omega) (fun y hy=>HW.o y (rep_in HRI.o _ (getD_inR hko) y hy));clear hle hok hb hgc h1 h2 h3;generalize s.a=sa at *;generalize s.n=sn at *;generalize s.c=sc at *;have HTK:Hid ((o.take k).map evOf++[evOf (o.getD k [])]=(o.take (k+1)).map evOf):=take_mapE o k hko;have hzl:((o.take k).map evOf).length≤1000000:=by rw [List.length_map,List.length_take];omega
    generalize (o.take k).map evOf=Z at *;go_wp2_with fail;refine HDE.o.mono ?_;rintro e w2 ⟨v,f2,rfl,hd,hb2⟩;unfold book.Ev.v;have HX:Hid (Blk (w2.alloc (.cells #[zI v.kd,zI v.me,zI v.mo,zI v.id,zI v.te,zI v.de,zI v.fe,zI v.pr,zI v.ch,zI v.un,zI v.tg,zI v.ow,zI v.bp] 125)) w2.heap.size #[zI v.kd,zI v.me,zI v.mo,zI v.id,zI v.te,zI v.de,zI v.fe,zI v.pr,zI v.ch,zI v.un,zI v.tg,zI v.ow,zI v.bp] 125):=Blk.new w2 _ _;have HBX:Hid (Below w1.heap.size w1 (w2.alloc (.cells #[zI v.kd,zI v.me,zI v.mo,zI v.id,zI v.te,zI v.de,zI v.fe,zI v.pr,zI v.ch,zI v.un,zI v.tg,zI v.ow,zI v.bp] 125))):=(HBR.o.trans (hb2.mono HBR.o.size)).alloc (Nat.le_trans HBR.o.size hb2.size) _;have HLX:Hid (book.Le (w2.alloc (.cells #[zI v.kd,zI v.me,zI v.mo,zI v.id,zI v.te,zI v.de,zI v.fe,zI v.pr,zI v.ch,zI v.un,zI v.tg,zI v.ow,zI v.bp] 125)) w1.heap.size U Z):=(HLE.o.next hb2).alloc _;have HD:Hid (DecIs (o.getD k []) v f2):=hd;have hsx:w2.heap.size<(w2.alloc (.cells #[zI v.kd,zI v.me,zI v.mo,zI v.id,zI v.te,zI v.de,zI v.fe,zI v.pr,zI v.ch,zI v.un,zI v.tg,zI v.ow,zI v.bp] 125)).heap.size:=(Blk.new w2 #[zI v.kd,zI v.me,zI v.mo,zI v.id,zI v.te,zI v.de,zI v.fe,zI v.pr,zI v.ch,zI v.un,zI v.tg,zI v.ow,zI v.bp] 125).lt;clear hd hb2 HDE HLE HBR ck;go_upto_region 9 with fail
    generalize (w2.alloc (.cells #[zI v.kd,zI v.me,zI v.mo,zI v.id,zI v.te,zI v.de,zI v.fe,zI v.pr,zI v.ch,zI v.un,zI v.tg,zI v.ow,zI v.bp] 125))=W3 at *;generalize w2.heap.size=gx at *;by_cases h2:f2=0
    ·subst h2;obtain ⟨hdk,hve⟩:=dec_ok HD.o;have HV:Hid (evOf (o.getD k [])=v):=hve.symm
     have HOK2:Hid (∀ j,j<k+1→DecOk (o.getD j [])):=fun j hj=>by
      by_cases e:j=k
      ·subst e;exact hdk
      ·exact HOK.o j (by omega)
     have HBK:Hid (Blk (W3.alloc (.cells #[zI v.kd,zI v.me,zI v.mo,zI v.id,zI v.te,zI v.de,zI v.fe,zI v.pr,zI v.ch,zI v.un,zI v.tg,zI v.ow,zI v.bp] 125)) W3.heap.size v.cl.toArray 125):=Blk.new W3 _ _;have HLA:Hid (book.Le (W3.alloc (.cells #[zI v.kd,zI v.me,zI v.mo,zI v.id,zI v.te,zI v.de,zI v.fe,zI v.pr,zI v.ch,zI v.un,zI v.tg,zI v.ow,zI v.bp] 125)) w1.heap.size U Z):=HLX.o.alloc _;have HBA:Hid (Below w1.heap.size w1 (W3.alloc (.cells #[zI v.kd,zI v.me,zI v.mo,zI v.id,zI v.te,zI v.de,zI v.fe,zI v.pr,zI v.ch,zI v.un,zI v.tg,zI v.ow,zI v.bp] 125))):=HBX.o.alloc HBX.o.size _;clear hdk hve HD HOK
     go_wp2_with (first
      | (refine zqw rfl rfl rfl HX zqu125 ?_)
      | (at_builtin;refine book.wp_ev rfl _ _ rfl w1.heap.size W3.heap.size U Z v rfl rfl HLA.o HBK.o hzl HBA.o.size ?_)
      | fail)
     intro v3 w3 h3 hg3;have HB3:Hid (Below w1.heap.size w1 w3):=tar.own_bel HLA.o hg3 HBA.o (Nat.le_refl _) HBA.o.size;have H3:Hid (book.Le w3 w1.heap.size v3 (Z++[v])):=h3;clear h3 hg3 HLA HBA HBK HX HLX HBX;go_wp2_with fail;go_roundw
     case rel=>exact ⟨k+1,v3,by omega,by go_num,by first | rfl | trivial,by rw [← HTK.o,HV.o];exact H3.o,HOK2.o,HB3.o⟩
     case measure=>simp [intOf];omega
    ·have d2:(f2 != 0)=true:=by simpa using h2
     have HK:Hid (KeptIs c [] f2):=⟨o,x,0,HRI.o,.inr (.inr ⟨rfl,h2,rfl,k,hko,HOK.o,by have:=dec_no HD.o h2;rw [← this];exact HD.o⟩)⟩
     have HBF:Hid (Below w.heap.size w W3):=HB1.o.trans (HBX.o.mono HB1.o.size);clear h2 HD HOK;go_wp2_with fail;go_ret2;exact ⟨none,0,0,[],f2,rfl,HK.o,ecame_nil _,Nat.zero_le _,HBF.o⟩
   ·obtain rfl:k=N:=by omega
    have hdl:decide ((k:Int)<(k:Int))=false:=by simp
    have HTA:Hid (o.take k=o):=List.take_of_length_le (by rw [HOL.o];exact Nat.le_refl _);have HK:Hid (KeptIs c (o.map evOf) 0):=⟨o,x,0,HRI.o,.inr (.inl ⟨rfl,fun j hj=>HOK.o j (by rw [← HOL.o];exact hj),rfl,rfl⟩)⟩
    have hwf:∀ v∈o.map evOf,book.wf13 v:=fun v hv=>by
     obtain ⟨z,hz,rfl⟩:=List.mem_map.1 hv;obtain ⟨j,hj,rfl⟩:=List.mem_iff_getElem.1 hz;have e:o.getD j []=o[j]:=by simp [List.getD,List.getElem?_eq_getElem hj]
     have:=HOK.o j (by rw [← HOL.o];exact hj);rw [e] at this;exact book.wf_may this.2
    have hl2:=HLE.o;rw [HTA.o] at hl2;obtain ⟨pz,cz,hvz,hcz⟩:=hl2.came (by rw [List.length_map,HOL.o];omega) hwf;have hlen:(o.map evOf).length=k:=by rw [List.length_map];exact HOL.o
    rw [hlen] at hvz hcz;subst hvz;have HCZ:Hid (ECame wr pz k cz (o.map evOf)):=hcz;have HBF:Hid (Below w.heap.size w wr):=HB1.o.trans (HBR.o.mono HB1.o.size);clear hle hok hb hl2 hcz hwf hlen HLE HOK HTA;go_wp2_with fail;go_ret2;exact ⟨pz,k,cz,_,0,rfl,HK.o,HCZ.o,hol,HBF.o⟩
 ·have d0:(f != 0)=true:=by simpa using h0
  have HK:Hid (KeptIs c [] f):=⟨o,x,f,HRI.o,.inl ⟨h0,rfl,rfl⟩⟩
  clear h0;go_wp2_with fail;go_ret2;exact ⟨none,0,0,[],f,rfl,HK.o,ecame_nil _,Nat.zero_le _,HB1.o⟩
theorem step_wf {t:Tm} {bk bk':List Cm} {v:Ev} (h:book.StepIs t bk v bk' 0) (hw:book.AWf bk):book.AWf bk':=by
 rcases h with ⟨_,e⟩ | ⟨_,_,_,e⟩ | ⟨m,_,_,_,rfl⟩ | ⟨_,_,_,e⟩ | ⟨m,_,k,c',_,hh,hs⟩
 ·cases e
 ·cases e
 ·exact hw.snoc ⟨(book.wf_may m).2.1,rfl,rfl,rfl,rfl,rfl⟩
 ·cases e
 ·rw [hs rfl];exact hw.set (book.hap_wf hh m).1
theorem book_wf {t:Tm} {l:List Ev} {bk:List Cm} {a:Int} (h:BookIs t l bk a 0):book.AWf bk:=by
 obtain ⟨_,_,_,st,s0,s1,rfl⟩:=book_ok h
 have:∀ i,i≤l.length→book.AWf (st i):=by
  intro i
  induction i with
  | zero=>intro _ c hc;rw [s0] at hc;cases hc
  | succ i ih=>intro hi;exact step_wf (s1 i (by omega)) (ih (by omega))
 exact this _ (Nat.le_refl _)
theorem load_wf {t:Tm} {c:List Int} {bk:List Cm} (h:LoadIs t c bk 0):book.AWf bk:=by
 obtain ⟨l,e,_,⟨p,_,q⟩ | ⟨_,a,q⟩⟩:=h
 ·exact absurd q.symm p
 ·exact book_wf q
theorem book_no {t:Tm} {l:List Ev} {bk:List Cm} {a f:Int} (h:BookIs t l bk a f) (hf:f≠0):bk=[]:=by
 rcases h with ⟨_,_,p,_⟩ | ⟨_,_,p,_⟩ | ⟨_,_,k,st,_,_,⟨_,_,_,p⟩ | ⟨_,_,_,p,_⟩⟩
 ·exact p
 ·exact p
 ·exact absurd p hf
 ·exact p
theorem enc_yes {v:Ev} {ws:List Int} {g:Int} (h:EncIs v ws g) (hv:EMay v):(∀ x∈ws,0≤x∧x<4294967296)∧g=0:=by
 rcases h with ⟨_,rfl,rfl⟩ | ⟨n,_⟩
 ·exact ⟨book.may_word hv,rfl⟩
 ·exact absurd hv n
theorem pkeep (p2:Option Addr) (m2 c2:Nat) (a:Option Addr) (n cap:Nat) (c:List Int) (l:List Ev) (v:Ev) (w:World) (h:Dk w a n cap c) (hk:KeptIs c l 0) (hl:l.length≤120) (hv:EMay v):Calls Tryz.prog 43 #[.agg #[.slice p2 m2 c2,.slice a n cap,zI (l.length:Int)],.agg #[zI v.kd,zI v.me,zI v.mo,zI v.id,zI v.te,zI v.de,zI v.fe,zI v.pr,zI v.ch,zI v.un,zI v.tg,zI v.ow,zI v.bp]] w fun e w'=>WrGot w (KeepIs c v) e w':=by
 have HC:Hid (∀ W,Below w.heap.size w W→Dk W a n cap c):=fun W hW=>h.below hW;have HKI:Hid (KeptIs c l 0):=hk;have HV:Hid (EMay v):=hv;clear h hk hv;obtain ⟨W0,HWW,H0s,H0v,H0B,hs0⟩:=sh2 w #[.slice p2 m2 c2,.slice a n cap,zI (l.length:Int)] 78 #[zI v.kd,zI v.me,zI v.mo,zI v.id,zI v.te,zI v.de,zI v.fe,zI v.pr,zI v.ch,zI v.un,zI v.tg,zI v.ow,zI v.bp] 125;go_enter Tryz.func43,Tryz.ntmps43;go_upto_region 1 with fail
 rw [HWW.o];clear HWW;by_cases h1:l.length=120
 ·have d1:((l.length:Int) == 120)=true:=by simp;omega
  have HF:Hid (KeepIs c v [] 16):=⟨l,0,HKI.o,.inl ⟨by omega,rfl,rfl⟩⟩
  clear h1;have qs2:W0.cell? ⟨w.heap.size,2,none⟩=some (zI (l.length:Int)):=H0s.o.cell 2
  go_wp2_with (first
   | (refine zqw rfl rfl rfl H0s zqu78 ?_)
   | (refine zqw rfl rfl rfl H0v zqu125 ?_)
   | fail)
  go_ret2;exact ⟨none,0,0,[],16,rfl,HF.o,⟨rfl,.inl rfl⟩,(fun x hx=>by cases hx),Nat.le_refl _,Nat.zero_le _,H0B.o⟩
 ·have d1:((l.length:Int) == 120)=false:=by simp;omega
  have hl2:Hid (l.length<120):=(by omega:l.length<120)
  clear h1 hl;have HEN:Hid (Calls Tryz.prog 70 #[.agg #[zI v.kd,zI v.me,zI v.mo,zI v.id,zI v.te,zI v.de,zI v.fe,zI v.pr,zI v.ch,zI v.un,zI v.tg,zI v.ow,zI v.bp]] W0 fun e w'=>book.EncGot W0 v e w'):=book.kenc W0 v (book.wf_may HV.o);have qs2:W0.cell? ⟨w.heap.size,2,none⟩=some (zI (l.length:Int)):=H0s.o.cell 2
  go_wp2_with (first
   | (refine zqw rfl rfl rfl H0s zqu78 ?_)
   | (refine zqw rfl rfl rfl H0v zqu125 ?_)
   | fail)
  refine HEN.o.mono ?_;rintro e w1 ⟨ra,rn,rc,ws,g,rfl,hen,hrw,hrn,hrc,hr13,hb1⟩;have H1s:=shN H0s hb1;have H1v:=shN H0v hb1;have H1B:=shB H0B hb1;have hsw1:W0.heap.size≤w1.heap.size:=hb1.size;clear hb1 H0s H0v H0B;clear qs2;obtain ⟨hws,rfl⟩:=enc_yes hen HV.o;have HEI:Hid (EncIs v ws 0):=hen;clear hen HEN;have HAP:Hid (Calls Tryz.prog 71 #[.slice a n cap,.slice ra rn rc] w1 fun e w'=>disk.AppGot w1 c ws e w'):=(fun d:Dk w1 a n cap c=>disk.kappend w1 a n cap c ra rn rc ws d.row d.nil d.room d.bytes d.wd hrw hrn hrc (by omega) hws) (HC.o _ H1B.o)
  clear hrw hrn hrc hws;have qs1:w1.cell? ⟨w.heap.size,1,none⟩=some (.slice a n cap):=H1s.o.cell 1
  go_wp2_with (first
   | (refine zqw rfl rfl rfl H1s zqu78 ?_)
   | (refine zqw rfl rfl rfl H1v zqu125 ?_)
   | fail)
  refine HAP.o.mono ?_;rintro e w2 ⟨p3,m3,c3,ls,f3,rfl,hrow,hnew,hle,hsm,hai,hb2⟩;have H2s:=shN H1s hb2;have H2v:=shN H1v hb2;have H2B:=shB H1B hb2;have hsw2:w1.heap.size≤w2.heap.size:=hb2.size;clear hb2 H1s H1v H1B;clear qs1;have HF:Hid (KeepIs c v ls f3):=⟨l,0,HKI.o,.inr ⟨hl2.o,ws,0,HEI.o,.inr ⟨rfl,hai⟩⟩⟩
  have HRW:Hid (cell.RowW w2 p3 m3 ls):=hrow;have HNW:Hid (∀ x,p3=some x→w.heap.size≤x.block):=fun x hx=>Nat.le_trans (by omega) (hnew x hx);clear hrow hnew hai HAP HEI HKI HC hl2;go_wp2_with fail;go_ret2;exact ⟨p3,m3,c3,ls,f3,rfl,HF.o,HRW.o,HNW.o,hle,hsm,H2B.o⟩
def CusP (w:World) (bk:List Cm) (me:Int) (e:Ending) (w':World):Prop:=Below w.heap.size w w'∧((e = .returned (.tuple #[.agg #[zI 0,zI 0,zI 0,zI 0,zI 0,zI 0,zS,zS],zI 18])∧NoneAt bk me) ∨
 ∃ k dp dn dc sp sn sc,e = .returned (.tuple #[.agg #[zI (bk.getD k cm0).a.me,zI (bk.getD k cm0).a.rv,zI (bk.getD k cm0).a.nx,zI (bk.getD k cm0).a.mo,zI (bk.getD k cm0).a.bo,zI (bk.getD k cm0).a.fr,.slice dp dn dc,.slice sp sn sc],zI 0])∧FirstAt bk me k∧k<bk.length∧tar.Came w dp dn dc (bk.getD k cm0).a.ds∧book.RowS w sp sn (bk.getD k cm0).so)
theorem find_first {xs:List book.Cu} {bk:List Cm} {me x f:Int} (hl:xs.length=bk.length) (hn:∀ i,i<xs.length→book.Nums (xs.getD i book.cu0) (bk.getD i cm0).a) (h:book.FindIs xs me x f):(f=18∧NoneAt bk me)∨(∃ k:Nat,x=(k:Int)∧f=0∧FirstAt bk me k∧k<xs.length):=by
 rcases h with ⟨k,h1,h2,h3,h4,h5⟩ | ⟨h1,h2,h3⟩
 ·refine .inr ⟨k,h4,h5,⟨by rw [← hl];exact h1,by rw [← (hn k h1).1];exact h2,fun j hj=>by rw [← (hn j (by omega)).1];exact h3 j hj⟩,h1⟩
 ·exact .inl ⟨h3,fun j hj=>by rw [← (hn j (by rw [hl];exact hj)).1];exact h1 j (by rw [hl];exact hj)⟩
theorem pcust (p2:Option Addr) (m2 c2:Nat) (xs:List book.Cu) (bk:List Cm) (a:Option Addr) (n cap:Nat) (q me:Int) (w:World) (h:Sees w p2 m2 xs bk) (hm:m2≤120):Calls Tryz.prog 34 #[.agg #[.slice p2 m2 c2,.slice a n cap,zI q],zI me] w fun e w'=>CusP w bk me e w':=by
 have HSE:Hid (Sees w p2 m2 xs bk):=h;clear h;obtain ⟨W0,HWW,H0s,H0r,H0B,hs0⟩:=sh2 w #[.slice p2 m2 c2,.slice a n cap,zI q] 78 #[zI 0,zI 0,zI 0,zI 0,zI 0,zI 0,zS,zS] 64;go_enter Tryz.func34,Tryz.ntmps34;go_upto_region 1 with fail
 rw [HWW.o];clear HWW;have HFI:Hid (Calls Tryz.prog 65 #[.agg #[.slice p2 m2 c2],zI me] W0 fun e w'=>book.FindPost W0 xs me e w'):=book.pfind W0 p2 m2 c2 xs me (HSE.o.below H0B.o).row (by omega);have qs0:W0.cell? ⟨w.heap.size,0,none⟩=some (.slice p2 m2 c2):=H0s.o.cell 0
 go_wp2_with (first
  | (refine zqw rfl rfl rfl H0s zqu78 ?_)
  | (refine zqw rfl rfl rfl H0r zqu64 ?_)
  | fail)
 refine HFI.o.mono ?_;rintro e w1 ⟨x,f,rfl,hfi,hb1⟩;have H1s:=shN H0s hb1;have H1r:=shN H0r hb1;have H1B:=shB H0B hb1;have hsw1:W0.heap.size≤w1.heap.size:=hb1.size;clear hb1 H0s H0r H0B;clear qs0;have hff:=find_first HSE.o.len HSE.o.num hfi;clear hfi HFI;rcases hff with ⟨rfl,hnone⟩ | ⟨k,rfl,rfl,hfirst,hkx⟩
 ·have HNO:Hid (NoneAt bk me):=hnone;clear hnone
  go_wp2_with (first
   | (refine zql rfl rfl rfl rfl zqu64 (by simp [Value.oneCell']) H1r rfl ?_)
   | (refine zqw rfl rfl rfl H1s zqu78 ?_)
   | (refine zqw rfl rfl rfl H1r zqu64 ?_)
   | fail)
  intro W2 hU;have H2s:=shK hU H1s (by omega);have H2r:Hid (Blk W2 (w.heap.size+1) #[zI 0,zI 0,zI 0,zI 0,zI 0,zI 0,zS,zS] 64):=hU.blk;have H2B:=shV hU H1B (by omega);have hsW2:W2.heap.size=w1.heap.size:=hU.size;clear hU H1s H1r H1B;have Rr0:Hid (W2.cell? ⟨w.heap.size+1,0,none⟩=some (zI 0)):=H2r.o.cell 0;have Rr1:Hid (W2.cell? ⟨w.heap.size+1,1,none⟩=some (zI 0)):=H2r.o.cell 1;have Rr2:Hid (W2.cell? ⟨w.heap.size+1,2,none⟩=some (zI 0)):=H2r.o.cell 2;have Rr3:Hid (W2.cell? ⟨w.heap.size+1,3,none⟩=some (zI 0)):=H2r.o.cell 3;have Rr4:Hid (W2.cell? ⟨w.heap.size+1,4,none⟩=some (zI 0)):=H2r.o.cell 4;have Rr5:Hid (W2.cell? ⟨w.heap.size+1,5,none⟩=some (zI 0)):=H2r.o.cell 5;have Rr6:Hid (W2.cell? ⟨w.heap.size+1,6,none⟩=some (zS)):=H2r.o.cell 6;have Rr7:Hid (W2.cell? ⟨w.heap.size+1,7,none⟩=some (zS)):=H2r.o.cell 7;go_wp2_with fail;exact bodyPost_ret (v:= .tuple #[.agg #[zI 0,zI 0,zI 0,zI 0,zI 0,zI 0,zS,zS],zI 18]) (by simp [results,Tryz.results34,Rr0.o,Rr1.o,Rr2.o,Rr3.o,Rr4.o,Rr5.o,Rr6.o,Rr7.o,go_sem]) rfl ⟨H2B.o,.inl ⟨rfl,HNO.o⟩⟩
 ·have HFT:Hid (FirstAt bk me k):=hfirst;have HSW:Hid (Sees w1 p2 m2 xs bk):=HSE.o.below H1B.o;have HKB:Hid (k<bk.length):=by rw [← HSE.o.len];exact hkx
  have HDS:Hid (tar.Came w (xs.getD k book.cu0).dp (xs.getD k book.cu0).dn (xs.getD k book.cu0).dc (bk.getD k cm0).a.ds∧book.RowS w (xs.getD k book.cu0).sp (xs.getD k book.cu0).sn (bk.getD k cm0).so):=⟨HSE.o.ds k hkx,HSE.o.so k hkx⟩
  obtain ⟨cb,co,hpp,hcl,hcc⟩:∃ b off,p2=some ⟨b,off,none⟩∧b<w1.heap.size∧∀ i j,i<m2→j<8→w1.cell? ⟨b,off+i*8+j,none⟩=(xs.getD i book.cu0).cs[j]?:=by
   rcases HSW.o.row.2 with h | h
   ·have:=HSW.o.row.1;omega
   ·exact h
  subst hpp;have hkm:k<m2:=by have:=HSW.o.row.1;omega
  have hnm:=HSW.o.num k hkx;have hds:=HSW.o.ds k hkx;have y0:w1.cell? ⟨cb,co+k*8,none⟩=some (zI (bk.getD k cm0).a.me):=(hcc k 0 hkm (by decide)).trans (by rw [← hnm.1];rfl);have y1:w1.cell? ⟨cb,co+k*8+1,none⟩=some (zI (bk.getD k cm0).a.rv):=(hcc k 1 hkm (by decide)).trans (by rw [← hnm.2.1];rfl);have y2:w1.cell? ⟨cb,co+k*8+2,none⟩=some (zI (bk.getD k cm0).a.nx):=(hcc k 2 hkm (by decide)).trans (by rw [← hnm.2.2.1];rfl);have y3:w1.cell? ⟨cb,co+k*8+3,none⟩=some (zI (bk.getD k cm0).a.mo):=(hcc k 3 hkm (by decide)).trans (by rw [← hnm.2.2.2.1];rfl);have y4:w1.cell? ⟨cb,co+k*8+4,none⟩=some (zI (bk.getD k cm0).a.bo):=(hcc k 4 hkm (by decide)).trans (by rw [← hnm.2.2.2.2.1];rfl);have y5:w1.cell? ⟨cb,co+k*8+5,none⟩=some (zI (bk.getD k cm0).a.fr):=(hcc k 5 hkm (by decide)).trans (by rw [← hnm.2.2.2.2.2];rfl);have y6:w1.cell? ⟨cb,co+k*8+6,none⟩=some (.slice (xs.getD k book.cu0).dp (xs.getD k book.cu0).dn (xs.getD k book.cu0).dc):=hcc k 6 hkm (by decide);have y7:w1.cell? ⟨cb,co+k*8+7,none⟩=some (.slice (xs.getD k book.cu0).sp (xs.getD k book.cu0).sn (xs.getD k book.cu0).sc):=hcc k 7 hkm (by decide);clear hcc hnm;generalize (xs.getD k book.cu0).dp=dp at *;generalize (xs.getD k book.cu0).dn=dn at *;generalize (xs.getD k book.cu0).dc=dc at *;generalize hy:(bk.getD k cm0).a=y at *;have HY:Hid ((bk.getD k cm0).a=y):=hy;clear hy;generalize (xs.getD k book.cu0).sp=sp at *;generalize (xs.getD k book.cu0).sn=sn at *;generalize (xs.getD k book.cu0).sc=sc at *;clear hds hfirst hkx HSW HSE;have qs0:w1.cell? ⟨w.heap.size,0,none⟩=some (.slice (some ⟨cb,co,none⟩) m2 c2):=H1s.o.cell 0
  go_wp2_with (first
   | (refine zql rfl rfl rfl rfl zqu64 (by simp [Value.oneCell']) H1r rfl ?_)
   | (refine zqw rfl rfl rfl H1s zqu78 ?_)
   | (refine zqw rfl rfl rfl H1r zqu64 ?_)
   | fail)
  intro W2 hU;have H2s:=shK hU H1s (by omega);have H2r:Hid (Blk W2 (w.heap.size+1) #[zI y.me,zI y.rv,zI y.nx,zI y.mo,zI y.bo,zI y.fr,.slice dp dn dc,.slice sp sn sc] 64):=hU.blk;have H2B:=shV hU H1B (by omega);have hsW2:W2.heap.size=w1.heap.size:=hU.size;clear hU H1s H1r H1B;clear qs0;obtain ⟨Rr0,Rr1,Rr2,Rr3,Rr4,Rr5,Rr6,Rr7⟩:=shc8 H2r;go_wp2_with fail;exact bodyPost_ret (v:= .tuple #[.agg #[zI y.me,zI y.rv,zI y.nx,zI y.mo,zI y.bo,zI y.fr,.slice dp dn dc,.slice sp sn sc],zI 0]) (by simp [results,Tryz.results34,Rr0.o,Rr1.o,Rr2.o,Rr3.o,Rr4.o,Rr5.o,Rr6.o,Rr7.o,go_sem]) rfl ⟨H2B.o,.inr ⟨k,dp,dn,dc,sp,sn,sc,by rw [HY.o],HFT.o,HKB.o,by rw [HY.o];exact HDS.o.1,HDS.o.2⟩⟩
end vnd
end Go.Proofs.YtdpfnedfakgolaaGreatDoor
