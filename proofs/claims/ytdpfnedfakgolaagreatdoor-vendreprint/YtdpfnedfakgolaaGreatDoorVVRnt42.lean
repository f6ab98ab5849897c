import Derived.Test.YtdpfnedfakgolaaGreatDoorVVRnt31
set_option linter.unusedVariables false
set_option linter.unusedSimpArgs false
set_option maxHeartbeats 4000000
set_option maxRecDepth 100000
namespace Go.Proofs.YtdpfnedfakgolaaGreatDoor
namespace words
open Go.RowKit
def Dg (w:World) (D:Nat) (d:Nat→Int):Prop:=w.heap[D]?=some (.cells ((List.range 29).map fun i=>Value.int .u8 (d i)).toArray 200 (0,0))
variable {w w':World} {D:Nat} {d:Nat→Int}
theorem Dg.cell (h:Dg w D d) {i:Nat} (hi:i<29):w.cell? ⟨D,i,none⟩=some (.int .u8 (d i)):=by unfold Dg at h;simp [World.cell?,h,hi]
theorem Dg.free (h:Dg w D d) (i:Nat):w.frozen? ⟨D,i,none⟩=false:=by unfold Dg at h;simp [World.frozen?,h]
theorem Dg.lt (h:Dg w D d):D<w.heap.size:=by
 by_cases hh:D<w.heap.size
 ·exact hh
 ·unfold Dg at h;rw [Array.getElem?_eq_none (by omega)] at h;cases h
theorem Dg.below (h:Dg w D d) (hb:Below w.heap.size w w'):Dg w' D d:=by
 have hlt:=h.lt;unfold Dg at *;rw [hb.block D hlt];exact h
theorem Dg.other (h:Dg w D d) {G:Nat} (i:Nat) (u:Value) (hne:G≠D):Dg (w.setCell ⟨G,i,none⟩ u) D d:=by
 unfold Dg at *;simp only [World.setCell,Array.getElem?_modify];rw [if_neg hne];exact h
def updd (d:Nat→Int) (i:Nat) (v:Int):Nat→Int:=fun k=>if k=i then v else d k
theorem Dg.set (h:Dg w D d) (i:Nat) (v:Int):Dg (w.setCell ⟨D,i,none⟩ (.int .u8 v)) D (updd d i v):=by
 unfold Dg at *;simp only [World.setCell,Array.getElem?_modify,h,if_true,Option.map_some]
 congr 2
 simp only [Option.isSome_none,Bool.false_eq_true,if_false];apply Array.ext';simp only [Array.toList_setIfInBounds];apply List.ext_getElem?;intro k;by_cases hk:k<29
 ·by_cases e:k=i
  ·subst e;simp [updd,hk]
  ·rw [List.getElem?_set_ne (by omega)];simp [updd,hk,e]
 ·rw [List.getElem?_eq_none (by simp;omega),List.getElem?_eq_none (by simp;omega)]
def dsOf (d:Nat→Int) (t:Nat):List Int:=(List.range t).map fun i=>d (29 - t+i)
theorem dsOf_len (d:Nat→Int) (t:Nat):(dsOf d t).length=t:=by simp [dsOf]
theorem dsOf_upd (d:Nat→Int) (t:Nat) (v:Int) (ht:t<29):dsOf (updd d (28 - t) v) (t+1)=v :: dsOf d t:=by
 unfold dsOf;rw [List.range_succ_eq_map,List.map_cons,List.map_map]
 congr 1
 ·simp [updd]
 ·apply List.map_congr_left;intro i hi;simp [updd]
  congr 1
  omega
theorem dg_new (w:World) (o:Obj):Dg ((w.alloc o).alloc (.cells ((List.range 29).map fun _=>Value.int .u8 0).toArray 200)) (w.heap.size+1) (fun _=>0):=by
 show ((w.heap.push o).push _)[w.heap.size+1]?=_;have:w.heap.size+1=(w.heap.push o).size:=by simp
 rw [this,Array.getElem?_push_size]
def ShowInv (V:Nat) (X:W3) (d:Nat→Int) (t:Nat):Prop:=
 (t=0∧X.val=V)∨(0<t∧X.val=0∧decL V=dsOf d t)∨(0<t∧0<X.val∧decL V=decL X.val.toNat++dsOf d t)
theorem show_more {V:Nat} {X:W3} {d:Nat→Int} {t:Nat} (hV:(V:Int)<top) (h:ShowInv V X d t) (hgo:t=0∨0<X.val) (hX:X.ok) :
  t<29∧ShowInv V (overW X 10) (updd d (28 - t) (48+overR X 10)) (t+1):=by
 have hv:=over_val X 10;have hr:=over_left (w:=X) 10 (by omega);have hq:=(W3.bd (over_ok hX (d:=10) (by omega))).1;have hlen:=decL_len29 V hV
 have ht:t<29:=by
  rcases h with ⟨h1,_⟩ | ⟨h1,h2,h3⟩ | ⟨h1,h2,h3⟩
  ·omega
  ·omega
  ·rw [h3,List.length_append,dsOf_len] at hlen;have h5:1≤(decL X.val.toNat).length:=(decL_len29 _ (by have:=(W3.bd hX).2;omega)).1;omega
 refine ⟨ht,?_⟩
 have hn:decL V=decL X.val.toNat++dsOf d t:=by
  rcases h with ⟨h1,h2⟩ | ⟨h1,h2,h3⟩ | ⟨_,_,h3⟩
  ·subst h1;rw [h2];simp [dsOf]
  ·omega
  ·exact h3
 have hds:=dsOf_upd d t (48+overR X 10) ht;by_cases h10:X.val<10
 ·right;left;have e0:(overW X 10).val=0:=by omega
  have e1:overR X 10=X.val:=by omega
  refine ⟨by omega,e0,?_⟩;rw [hn,hds,decL_one (by omega),e1];have hx0:=(W3.bd hX).1;rw [show ((X.val.toNat:Nat):Int)=X.val by omega];rfl
 ·right;right;refine ⟨by omega,by omega,?_⟩;rw [hn,hds,decL_more (by omega)];have e1:X.val.toNat / 10=(overW X 10).val.toNat:=by omega
  have e2:((X.val.toNat % 10:Nat):Int)=overR X 10:=by omega
  rw [e1,e2,List.append_assoc];rfl
theorem zero_iff {X:W3} (hX:X.ok):X.val=0↔X=⟨0,0,0⟩:=by
 obtain ⟨⟨h1,_⟩,⟨h2,_⟩,h3,_⟩:=hX;constructor
 ·intro h;unfold W3.val at h;obtain ⟨a,b,c⟩:=X;simp only at *;have:a=0:=by omega
  have:b=0:=by omega
  have:c=0:=by omega
  subst_vars;rfl
 ·intro h;rw [h];rfl
def strOf (ns:List Int):ByteArray:=ns.foldl (fun r n=>r.push (UInt8.ofNat n.toNat)) ByteArray.empty
theorem conv_ds (w:World) (D:Nat) (d:Nat→Int) (t:Nat) (ht:t≤29) (h:Dg w D d) :
  (convert 201 9 (.slice (some ⟨D,29 - t,none⟩) t t)).run Tryz.prog w = .ok (.string (strOf (dsOf d t))) w:=by
 rw [run_convert_bytes_string _ _ _ _ _ _ _ Tryz.underlying201 Tryz.underlying5 Tryz.underlying9,run_bytesToString _ _ _ _ (dsOf d t)]
 ·rfl
 ·have:=run_loadCells (P:=Tryz.prog) w ⟨D,29 - t,none⟩ t (fun i=> .int .u8 (d (29 - t+i))) (fun j hj=>by rw [Addr.add_lit];exact h.cell (by omega));rw [this]
  congr 2
  simp [dsOf]
theorem slice_ds (D t:Nat) (w:World) (h0:0<t) (h1:t≤29) :
  (Instr.sliceAt 200 (.pointer (some ⟨D,0,none⟩)) (some (zI ((29 - t:Nat):Int))) none none).run Tryz.prog w = .ok (.slice (some ⟨D,29 - t,none⟩) t t) w:=by
 have e2:29 - (29 - t)=t:=by omega
 simp [Instr.sliceAt,Instr.sliceBounds,Instr.sliceBound,asIntOf,run_underlying Tryz.underlying200,go_sem,e2];omega
theorem show_any (x:W3) (w:World) (hx:x.ok) :
  Calls Tryz.prog 67 #[wv x] w fun e w'=>e = .returned (.string (strOf (decL x.val.toNat)))∧Below w.heap.size w w':=by
 have hxb:=W3.bd hx;have HX:Hid (x.ok):=hx;have HB0:Hid (∀ o1 o2:Obj,Below w.heap.size w ((w.alloc o1).alloc o2)):=fun o1 o2=>bel2 w o1 o2;clear hx;go_enter Tryz.func67,Tryz.ntmps67;go_wp2_with fail;go_loopw [4] (fun v wr=>∃ (t:Nat) (X:W3) (d:Nat→Int),t≤29∧v=zI ((29 - t:Nat):Int)∧X.ok∧Wat wr w.heap.size X∧Dg wr (w.heap.size+1) d∧Below w.heap.size w wr∧ShowInv x.val.toNat X d t) (fun v _=>(intOf v).toNat)
 case atStart=>exact ⟨0,x,fun _=>0,by omega,rfl,HX.o,trio_a _ _ _ _ _,dg_new _ _,bel2 _ _ _,.inl ⟨rfl,by omega⟩⟩
 case round=>
  obtain ⟨t,X,d,ht,rfl,hX,hT,hD,hb,hi⟩:=hrel;by_cases hgo:t=0∨0<X.val
  ·obtain ⟨ht29,hm⟩:=show_more (by omega) hi hgo hX;have HM:Hid (ShowInv x.val.toNat (overW X 10) (updd d (28 - t) (48+overR X 10)) (t+1)):=hm;have hz:=(zero_iff hX)
   have HT:Hid (Wat wr w.heap.size X):=hT;have HD:Hid (Dg wr (w.heap.size+1) d):=hD;have HB:Hid (Below w.heap.size w wr):=hb;have c0:=hT.c0;have c1:=hT.c1;have c2:=hT.c2;clear hT hD hb hi hm;have e28:((29 - t:Nat):Int) - 1=((28 - t:Nat):Int):=by omega
   have g29:28 - t<29:=by omega
   have HG:Hid (29 - (t+1)=28 - t):=(by omega:29 - (t+1)=28 - t)
   by_cases h0:t=0
   ·have e29:(((29 - t:Nat):Int) == 29)=true:=by simp;omega
    have f29:((29 - t:Nat):Int)≤29:=by omega
    clear hgo hz ht;generalize 29 - t=f at *;generalize 28 - t=g at *;go_wp2_with fail;refine (over_any X 10 _ hX (by omega) (by omega)).mono ?_;rintro e w2 ⟨rfl,hb2⟩;have hQ:=over_ok hX (d:=10) (by omega);have hr:=over_left (w:=X) 10 (by omega);have T2:=HT.o.below hb2;have D2:=HD.o.below hb2;have B2:=HB.o.trans (hb2.mono HB.o.size);clear hb2 HT HD HB c0 c1 c2;generalize overW X 10=Q at *;generalize overR X 10=r at *;have c0:=T2.c0;have c1:=T2.c1;have c2:=T2.c2;have f0:=T2.free 0;have f1:=T2.free 1;have f2:=T2.free 2;have T3:=T2.put (.int .u32 Q.a) (.int .u32 Q.b) (.int .u32 Q.c);have D3:=((D2.other (G:=w.heap.size) 0 (.int .u32 Q.a) (by omega)).other (G:=w.heap.size) 1 (.int .u32 Q.b) (by omega)).other (G:=w.heap.size) 2 (.int .u32 Q.c) (by omega);have B3:=below_put3 B2 w.heap.size (.int .u32 Q.a) (.int .u32 Q.b) (.int .u32 Q.c) (Nat.le_refl _);have d1:=D3.cell (i:=g) (by omega);have d2:=D3.free g;have HT:Hid (Wat ((put3 w2 w.heap.size (.int .u32 Q.a) (.int .u32 Q.b) (.int .u32 Q.c)).setCell ⟨w.heap.size+1,g,none⟩ (.int .u8 (48+r))) w.heap.size Q):=T3.other _ _ (by omega);have HD:Hid (Dg ((put3 w2 w.heap.size (.int .u32 Q.a) (.int .u32 Q.b) (.int .u32 Q.c)).setCell ⟨w.heap.size+1,g,none⟩ (.int .u8 (48+r))) (w.heap.size+1) (updd d g (48+r))):=D3.set _ _;have HB:Hid (Below w.heap.size w ((put3 w2 w.heap.size (.int .u32 Q.a) (.int .u32 Q.b) (.int .u32 Q.c)).setCell ⟨w.heap.size+1,g,none⟩ (.int .u8 (48+r)))):=below_set B3 _ _ _ (by omega);clear T2 D2 B2 T3 D3 B3;obtain ⟨r0,r1⟩:=hr;generalize d g=dd at *;go_wp2_with fail;go_roundw
    case rel=>exact ⟨t+1,Q,_,by omega,by rw [HG.o],hQ,HT.o,HD.o,HB.o,HM.o⟩
    case measure=>simp [intOf];omega
   ·have hne:X≠⟨0,0,0⟩:=fun e=>by have:=hz.2 e;omega
    have q:=eq3_other hne;have e29:(((29 - t:Nat):Int) == 29)=false:=by simp;omega
    have f29:((29 - t:Nat):Int)≤29:=by omega
    clear hgo hz;generalize 29 - t=f at *;generalize 28 - t=g at *;go_wp2_with fail;refine (over_any X 10 _ hX (by omega) (by omega)).mono ?_;rintro e w2 ⟨rfl,hb2⟩;have hQ:=over_ok hX (d:=10) (by omega);have hr:=over_left (w:=X) 10 (by omega);have T2:=HT.o.below hb2;have D2:=HD.o.below hb2;have B2:=HB.o.trans (hb2.mono HB.o.size);clear hb2 HT HD HB c0 c1 c2;generalize overW X 10=Q at *;generalize overR X 10=r at *;have c0:=T2.c0;have c1:=T2.c1;have c2:=T2.c2;have f0:=T2.free 0;have f1:=T2.free 1;have f2:=T2.free 2;have T3:=T2.put (.int .u32 Q.a) (.int .u32 Q.b) (.int .u32 Q.c);have D3:=((D2.other (G:=w.heap.size) 0 (.int .u32 Q.a) (by omega)).other (G:=w.heap.size) 1 (.int .u32 Q.b) (by omega)).other (G:=w.heap.size) 2 (.int .u32 Q.c) (by omega);have B3:=below_put3 B2 w.heap.size (.int .u32 Q.a) (.int .u32 Q.b) (.int .u32 Q.c) (Nat.le_refl _);have d1:=D3.cell (i:=g) (by omega);have d2:=D3.free g;have HT:Hid (Wat ((put3 w2 w.heap.size (.int .u32 Q.a) (.int .u32 Q.b) (.int .u32 Q.c)).setCell ⟨w.heap.size+1,g,none⟩ (.int .u8 (48+r))) w.heap.size Q):=T3.other _ _ (by omega);have HD:Hid (Dg ((put3 w2 w.heap.size (.int .u32 Q.a) (.int .u32 Q.b) (.int .u32 Q.c)).setCell ⟨w.heap.size+1,g,none⟩ (.int .u8 (48+r))) (w.heap.size+1) (updd d g (48+r))):=D3.set _ _;have HB:Hid (Below w.heap.size w ((put3 w2 w.heap.size (.int .u32 Q.a) (.int .u32 Q.b) (.int .u32 Q.c)).setCell ⟨w.heap.size+1,g,none⟩ (.int .u8 (48+r)))):=below_set B3 _ _ _ (by omega);clear T2 D2 B2 T3 D3 B3;obtain ⟨r0,r1⟩:=hr;generalize d g=dd at *;go_wp2_with fail;go_roundw
    case rel=>exact ⟨t+1,Q,_,by omega,by rw [HG.o],hQ,HT.o,HD.o,HB.o,HM.o⟩
    case measure=>simp [intOf];omega
  ·have ht0:0<t:=by omega
   have hX0:X.val=0:=by have:=(W3.bd hX).1;omega
   have hXz:=(zero_iff hX).1 hX0
   have hfin:decL x.val.toNat=dsOf d t:=by
    rcases hi with h | ⟨_,_,h⟩ | h
    ·omega
    ·exact h
    ·omega
   subst hXz;have c0:=hT.c0;have c1:=hT.c1;have c2:=hT.c2;have q:=eq3_same ⟨0,0,0⟩;have e29:(((29 - t:Nat):Int) == 29)=false:=by simp;omega
   have hsl:=slice_ds (w.heap.size+1) t wr ht0 ht;have hcv:=conv_ds wr (w.heap.size+1) d t ht hD;rw [← hfin] at hcv;have HB:Hid (Below w.heap.size w wr):=hb;clear hi hgo hX0 hfin hT hD hb hX;go_wp2_with fail;go_ret;exact ⟨rfl,HB.o⟩
end words
namespace token
open words
open Go.RowKit
theorem str_list (ns:List Int):(strOf ns).data.toList=ns.map byt:=by
 have h:∀ (ns:List Int) (r:ByteArray),(ns.foldl (fun r n=>r.push (UInt8.ofNat n.toNat)) r).data.toList=r.data.toList++ns.map byt:=by
  intro ns
  induction ns with
  | nil=>intro r;simp
  | cons x l ih=>intro r;rw [List.foldl_cons,ih];simp [ByteArray.push,byt]
 have:=h ns ByteArray.empty;simpa [strOf] using this
theorem str_size (ns:List Int):(strOf ns).size=ns.length:=by
 rw [← check.len_eq,str_list];simp
theorem rep_list (n:Nat):Lib.repeatL [48] n=List.replicate n 48:=by
 induction n with
 | zero=>rfl
 | succ n ih=>rw [Lib.repeatL,ih];rfl
theorem bytes_ext {a b:ByteArray} (h:a.data.toList=b.data.toList):a=b:=by
 cases a;cases b;congr 1;exact Array.toList_inj.1 h
theorem pad_fmt (V n:Nat) (h:n+(decL V).length=20):(⟨(Lib.repeatL [48] n).toArray⟩:ByteArray)++strOf (decL V)=fmtB V:=by
 apply bytes_ext;rw [fmtB_list,show ((⟨(Lib.repeatL [48] n).toArray⟩:ByteArray)++strOf (decL V)).data.toList=Lib.repeatL [48] n++(strOf (decL V)).data.toList by simp,str_list,rep_list];unfold fmtL;rw [show 20 - (decL V).length=n by omega]
theorem show_wn (a b c V:Nat) (w:World) (h:WN a b c V) :
  Calls Tryz.prog 67 #[.agg #[.int .u32 (a:Int),.int .u32 (b:Int),.int .u32 (c:Int)]] w fun e w'=>e = .returned (.string (strOf (decL V)))∧Below w.heap.size w w':=by
 have hk:=wn_ok h;have:=show_any ⟨a,b,c⟩ w hk.1
 rwa [hk.2,Int.toNat_natCast] at this
theorem format_ok (k:Tok) (w:World) (ht:TTab w) (hk:k.ok) :
  Calls Tryz.prog 37 #[k.v] w fun e w'=>e = .returned (.tuple #[.string (fmtB (97*k.num)),zI 0])∧Below w.heap.size w w':=by
 have HF:Hid (∀ W,TTab W→Calls Tryz.prog 66 #[.agg #[zI (k.c:Int),zI (k.i:Int),zI (k.a:Int),zI (k.t:Int)]] W fun e w'=>WordsPost W k e w'):=fun W hW=>words_ok k W hW hk;have hnb:=num_bd hk;have hln:=dec_len20 (V:=k.num*97) (by omega);have hsz:=str_size (decL (k.num*97));have HSh:Hid (∀ (a b c:Nat) W,WN a b c (k.num*97)→Calls Tryz.prog 67 #[.agg #[.int .u32 (a:Int),.int .u32 (b:Int),.int .u32 (c:Int)]] W fun e w'=>e = .returned (.string (strOf (decL (k.num*97))))∧Below W.heap.size W w'):=fun a b c W hW=>show_wn a b c _ W hW;obtain ⟨n,hn⟩:∃ n:Nat,n+(decL (k.num*97)).length=20:=⟨20 - (decL (k.num*97)).length,by omega⟩
 have HRp:Hid (∀ W,Calls Tryz.prog 68 #[.string ⟨#[48]⟩,zI (n:Int)] W fun e w'=>e = .returned (.string ⟨(Lib.repeatL [48] n).toArray⟩)∧Below W.heap.size W w'):=fun W=>Tryz.strings_Repeat ⟨#[48]⟩ n W (by omega) (by show 1*n≤_;omega)
 have HX:Hid ((⟨(Lib.repeatL [48] n).toArray⟩:ByteArray)++strOf (decL (k.num*97))=fmtB (97*k.num)):=by
  show _=_;rw [pad_fmt _ _ hn,Nat.mul_comm]
 have hzz:(⟨(Lib.repeatL [48] n).toArray⟩:ByteArray).size=n:=by
  show (Lib.repeatL [48] n).toArray.size=n;rw [rep_list];simp
 have HT:Hid (TTab (w.alloc (.cells #[zI (k.c:Int),zI (k.i:Int),zI (k.a:Int),zI (k.t:Int)] 54))):=ht.below (bel_box _ _);have HB:Hid (Below w.heap.size w (w.alloc (.cells #[zI (k.c:Int),zI (k.i:Int),zI (k.a:Int),zI (k.t:Int)] 54))):=bel_box _ _;rw [← hsz] at hn hln;clear ht hk hnb hsz;generalize strOf (decL (k.num*97))=D at *;generalize (⟨(Lib.repeatL [48] n).toArray⟩:ByteArray)=Z at *;have hds:(20:Int) - (D.size:Int)=(n:Int):=by omega
 unfold Tok.v;go_enter Tryz.func37,Tryz.ntmps37;go_wp2_with fail;refine (HF.o _ HT.o).mono ?_;rintro e w1 ⟨a,b,c,rfl,hwn,hb1⟩;have hN:=Blk.new w1 #[.int .u32 (a:Int),.int .u32 (b:Int),.int .u32 (c:Int)] 89;have HB1:Hid (Below w.heap.size w (w1.alloc (.cells #[.int .u32 (a:Int),.int .u32 (b:Int),.int .u32 (c:Int)] 89))):=(bel_step HB.o hb1).alloc (bel_step HB.o hb1).size _;have HW:Hid (WN a b c (k.num*97)):=hwn;have c0:=hN.cell 0;have c1:=hN.cell 1;have c2:=hN.cell 2;clear hb1 HF HB HT hwn hN;go_wp2_with fail;refine (HSh.o _ _ _ _ HW.o).mono ?_;rintro e w2 ⟨rfl,hb2⟩;have HB2:=shB HB1 hb2;clear hb2 HSh HB1 HW c0 c1 c2;go_wp2_with fail;refine (HRp.o _).mono ?_;rintro e w3 ⟨rfl,hb3⟩;have HB3:=shB HB2 hb3;clear hb3 HRp HB2;go_wp2_with fail;refine bodyPost_ret (v:= .tuple #[.string (Z++D),zI 0]) (by simp [results,Tryz.results37,go_sem]) rfl ⟨by rw [HX.o],HB3.o⟩
end token
namespace vnd
open book (Ev ev0 EMay evL evOf EncIs DecIs Cm cm0 So so0 BookIs FirstAt NoneAt Tells)
open acc (Ac Tm Bi SellIs GrantIs RekeyIs OweIs)
open ora (Pr IssueIs)
open token (Tok fmtL)
theorem cm_mem {bk:List Cm} {j:Nat} (h:j<bk.length):bk.getD j cm0∈bk:=by
 have e:bk.getD j cm0=bk[j]:=by simp [List.getD,List.getElem?_eq_getElem h]
 rw [e];exact List.getElem_mem _
def SoldOk (s:So):Prop:=(1≤s.id∧s.id≤1048575)∧(0≤s.tg∧s.tg≤65535)∧((s.cl=0∧1≤s.am∧s.am≤2097151)∨(s.cl=2∧1≤s.am∧s.am≤15))
theorem sold_tok {s:So} (h:SoldOk s):(Tok.mk s.cl.toNat s.id.toNat s.am.toNat s.tg.toNat).ok∧(Tok.mk s.cl.toNat s.id.toNat s.am.toNat s.tg.toNat).v = .agg #[zI s.cl,zI s.id,zI s.am,zI s.tg]:=by
 obtain ⟨h1,h2,h3⟩:=h;refine ⟨⟨?_,?_,?_,?_,?_,?_,?_,?_⟩,?_⟩
 ·show s.cl.toNat≤3;omega
 ·show 1≤s.id.toNat;omega
 ·show s.id.toNat≤1048575;omega
 ·show s.tg.toNat≤65535;omega
 ·show s.am.toNat≤2097151;omega
 ·intro h;have h:s.cl.toNat=0:=h;show 1≤s.am.toNat;omega
 ·intro h;have h:s.cl.toNat=2:=h;show 1≤s.am.toNat∧s.am.toNat≤15;omega
 ·intro h;have h:s.cl.toNat=1∨s.cl.toNat=3:=h;omega
 ·unfold token.Tok.v;show Value.agg #[zI (s.cl.toNat:Int),zI (s.id.toNat:Int),zI (s.am.toNat:Int),zI (s.tg.toNat:Int)]=_;rw [Int.toNat_of_nonneg (by omega),Int.toNat_of_nonneg (by omega),Int.toNat_of_nonneg (by omega),Int.toNat_of_nonneg (by omega)]
def AllOk (bk:List Cm):Prop:=∀ x∈bk,∀ s∈x.so,SoldOk s
theorem rekey_rv {a b:Ac} {l:Bi} (h:RekeyIs a b l 0):0≤a.rv∧a.rv<15:=by
 rcases h with ⟨_,_,_,h⟩ | ⟨_,_,_,_,h⟩ | ⟨_,_,_,_,_,h⟩ | ⟨ha,hr,_,_,_,_⟩
 ·cases h
 ·cases h
 ·cases h
 ·exact ⟨ha.2.2.1.1,hr⟩
theorem hap_sold {t:Tm} {c c':Cm} {v:Ev} (h:book.HapIs t c v c' 0) (hv:EMay v) (h1:v.kd≠1) (hs:∀ s∈c.so,SoldOk s):∀ s∈c'.so,SoldOk s:=by
 rcases h with ⟨p,b,q,r⟩ | ⟨p,b,l,e,q,⟨x,r⟩ | ⟨_,_,r⟩ | ⟨x,y,_,z⟩⟩
 ·rw [r rfl];exact hs
 ·exact absurd r.symm x
 ·cases r
 ·rw [z];intro s hsm;rcases List.mem_append.1 hsm with h | h
  ·exact hs s h
  ·rw [List.mem_singleton.1 h];unfold book.soldOf;unfold EMay at hv;by_cases k4:v.kd=4
   ·rw [if_pos k4];subst x;rcases q with ⟨a,_⟩ | ⟨a,_⟩ | ⟨_,q⟩
    ·omega
    ·omega
    ·have hr:=rekey_rv q;refine ⟨?_,?_,.inr ⟨rfl,?_⟩⟩
     ·show 1≤v.id∧v.id≤1048575;omega
     ·show 0≤v.tg∧v.tg≤65535;omega
     ·show 1≤c.a.rv+1∧c.a.rv+1≤15;omega
   ·rw [if_neg k4];refine ⟨?_,?_,.inl ⟨rfl,?_⟩⟩
    ·show 1≤v.id∧v.id≤1048575;omega
    ·show 0≤v.tg∧v.tg≤65535;omega
    ·show 1≤v.un∧v.un≤2097151;omega
theorem step_sold {t:Tm} {bk bk':List Cm} {v:Ev} (h:book.StepIs t bk v bk' 0) (hs:AllOk bk):AllOk bk':=by
 rcases h with ⟨_,r⟩ | ⟨_,_,_,r⟩ | ⟨_,_,_,_,s⟩ | ⟨_,_,_,r⟩ | ⟨p,q,k,c',hk,hh,s⟩
 ·cases r
 ·cases r
 ·rw [s];intro x hx;rcases List.mem_append.1 hx with h | h
  ·exact hs x h
  ·rw [List.mem_singleton.1 h];intro y hy;cases hy
 ·cases r
 ·rw [s rfl];intro x hx;rcases List.mem_or_eq_of_mem_set hx with h | h
  ·exact hs x h
  ·rw [h];exact hap_sold hh p q (hs _ (cm_mem hk.1))
theorem states_sold {t:Tm} {l:List Ev} {k:Nat} {st:Nat→List Cm} (h0:st 0=[]) (h:∀ i,i<k→book.StepIs t (st i) (l.getD i ev0) (st (i+1)) 0):∀ i,i≤k→AllOk (st i)
 | 0,_=>by rw [h0];intro x hx;cases hx
 | i+1,hk=>step_sold (h i (by omega)) (states_sold h0 h i (by omega))
theorem load_sold {t:Tm} {c:List Int} {bk:List Cm} {f:Int} (h:LoadIs t c bk f):∀ x∈bk,∀ j,j<x.so.length→SoldOk (x.so.getD j so0):=by
 have hall:AllOk bk:=by
  obtain ⟨l,e,_,⟨_,rfl,_⟩ | ⟨_,a,q⟩⟩:=h
  ·intro x hx;cases hx
  ·rcases q with ⟨_,_,rfl,_⟩ | ⟨_,_,rfl,_⟩ | ⟨_,_,k,st,s0,s1,⟨_,rfl,_⟩ | ⟨_,_,_,rfl,_⟩⟩
   ·intro x hx;cases hx
   ·intro x hx;cases hx
   ·exact states_sold s0 s1 k (Nat.le_refl _)
   ·intro x hx;cases hx
 intro x hx j hj;have e:x.so.getD j so0=x.so[j]:=by simp [List.getD,List.getElem?_eq_getElem hj]
 rw [e];exact hall x hx _ (List.getElem_mem _)
end vnd
end Go.Proofs.YtdpfnedfakgolaaGreatDoor
