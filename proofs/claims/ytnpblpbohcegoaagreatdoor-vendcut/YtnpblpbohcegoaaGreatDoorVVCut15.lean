import Derived.Test.YtnpblpbohcegoaaGreatDoorVVCut11
import Derived.Test.YtnpblpbohcegoaaGreatDoorVVCut14
set_option linter.unusedVariables false
set_option linter.unusedSimpArgs false
set_option maxHeartbeats 4000000
set_option maxRecDepth 100000
namespace Go.Proofs.YtnpblpbohcegoaaGreatDoor
namespace vnd
open book (Ev ev0 Cm cm0 So so0 Sees)
open acc (Ac Tm Bi)
open ora (Pr)
open cell (Wr RowU)
open rcp (Rc rc0)
open Go.RowKit
def LoadPost (w:World) (t:Tm) (c:List Int) (e:Ending) (w':World):Prop:=∃ p m cap xs bk f,e = .returned (.tuple #[.agg #[.slice p m cap],zI f])∧LoadIs t c bk f∧Sees w' p m xs bk∧m≤120∧Below w.heap.size w w'
structure Dk (w:World) (a:Option Addr) (n cap:Nat) (c:List Int):Prop where
 row:RowU w a n c
 nil:a=none→cap=0
 room:n≤cap
 bytes:n*4≤140737488351232
 wd:∀ x∈c,0≤x∧x<4294967296
theorem Dk.below {w w':World} {a:Option Addr} {n cap:Nat} {c:List Int} (h:Dk w a n cap c) (hb:Below w.heap.size w w'):Dk w' a n cap c:=⟨h.row.below hb,h.nil,h.room,h.bytes,h.wd⟩
open cell (RowW)
def WrGot (w:World) (R:List Wr→Int→Prop) (e:Ending) (w':World):Prop:=∃ p m cp ls f,e = .returned (.tuple #[.slice p m cp,zI f])∧R ls f∧RowW w' p m ls∧(∀ x,p=some x→w.heap.size≤x.block)∧m≤cp∧m≤100000∧Below w.heap.size w w'
end vnd
namespace rcp
open Go.RowKit
def Rc.cs (r:Rc):Array Value:=#[zI r.me,zI r.id,zI r.te,zI r.de,zI r.fe,zI r.pr,zI r.ch,zI r.un,.string ⟨r.tk.toArray⟩]
def Rc.v (r:Rc):Value:= .agg r.cs
end rcp
namespace acc
open tar (Du du0 Right MostOf cost Top)
open deb (sumD recK ageAll)
open Go.RowKit
theorem tright_wf {t:Tm} (h:TRight t):wf4 t:=by
 obtain ⟨_,⟨a1,a2⟩,⟨b1,b2⟩,⟨c1,c2⟩,d1,d2⟩:=h;exact ⟨tar.wf_mid a1 (by omega),tar.wf_mid b1 (by omega),tar.wf_mid c1 (by omega),tar.wf_mid d1 (by omega)⟩
theorem rec_bd {te db:Int} (h0:0≤te) (h1:te≤100000000) (h2:0≤db) (h3:db≤10000):0≤te*db / 10000∧te*db / 10000≤te:=by
 have a:=Int.mul_nonneg h0 h2;have b:te*db≤te*10000:=Int.mul_le_mul_of_nonneg_left h3 h0;omega
theorem most_cost {l:List Du} {x m u:Int} (h:Right l) (hx:0≤x) (hu:MostOf l x m u) (h1:1≤u):0<cost l x (x+u)∧cost l x (x+u)≤m∧x+u≤10000000∧u≤2097151:=by
 have h2:=hu.1.2;have h3:=tar.cost_bd h x (x+u) hx (by omega) (by unfold Top at h2;omega);exact ⟨by omega,hu.2.1,by unfold Top at h2;omega,by unfold Top at h2;omega⟩
theorem mays_sum {l:List Du} (h:deb.Mays l):0≤sumD l∧sumD l≤8000000000:=by
 have h1:=deb.sumD_pos (l:=l) (deb.mem_fits h.2);have h2:=h.1;exact ⟨h1.1,by have:=h1.2;omega⟩
end acc
namespace tar
theorem getD_snoc (Z:List Du) (r:Du) (i:Nat):(Z++[r]).getD i du0=if i<Z.length then Z.getD i du0 else if i=Z.length then r else du0:=by
 by_cases h:i<Z.length
 ·rw [if_pos h];simp [List.getD,List.getElem?_append_left h]
 ·rw [if_neg h];by_cases h2:i=Z.length
  ·subst h2;simp [List.getD]
  ·rw [if_neg h2];have:(Z++[r])[i]?=none:=List.getElem?_eq_none (by simp;omega);simp [List.getD,this]
structure Grow (Z:List Du) (k:Nat) (up:Int):Prop where
 len:Z.length=k
 fit:∀ i,i<k→(1≤(Z.getD i du0).a∧(Z.getD i du0).a≤up)∧1≤(Z.getD i du0).b∧(Z.getD i du0).b≤100000
 rise:∀ i,1≤i→i<k→(Z.getD (i - 1) du0).a<(Z.getD i du0).a
 low:0≤up
 top:up≤(k:Int)*1000000
theorem Grow.zero:Grow [] 0 0:=⟨rfl,fun i hi=>absurd hi (Nat.not_lt_zero _),fun i _ hi=>absurd hi (Nat.not_lt_zero _),by decide,by decide⟩
theorem Grow.step {Z:List Du} {k:Nat} {up d p:Int} (h:Grow Z k up) (d1:1≤d) (d2:d≤1000000) (p1:1≤p) (p2:p≤100000):Grow (Z++[⟨up+d,p⟩]) (k+1) (up+d):=by
 have h0:=h.low;refine ⟨by rw [List.length_append,h.len];rfl,fun i hi=>?_,fun i h1 hi=>?_,by omega,?_⟩
 ·rw [getD_snoc,h.len];by_cases e:i<k
  ·rw [if_pos e];have:=h.fit i e;exact ⟨⟨this.1.1,by omega⟩,this.2⟩
  ·rw [if_neg e,if_pos (by omega)];exact ⟨⟨by show 1≤up+d;omega,Int.le_refl _⟩,p1,p2⟩
 ·rw [getD_snoc,getD_snoc,h.len];by_cases e:i<k
  ·rw [if_pos (by omega),if_pos e];exact h.rise i h1 e
  ·rw [if_pos (by omega),if_neg e,if_pos (by omega)];have:=(h.fit (i - 1) (by omega)).1.2;show _<up+d;omega
 ·have:=h.top;omega
theorem Grow.right {Z:List Du} {k:Nat} {up p:Int} (h:Grow Z k up) (hk:k≤7) (p1:1≤p) (p2:p≤100000):Right (Z++[⟨10000000,p⟩]):=by
 have h0:=h.low;have h1:=h.top;have hl:(Z++[(⟨10000000,p⟩:Du)]).length=k+1:=by rw [List.length_append,h.len];rfl
 refine ⟨⟨by rw [hl];omega,by rw [hl];omega⟩,fun i hi=>?_,fun i h1 hi=>?_,?_⟩
 ·rw [hl] at hi;rw [getD_snoc,h.len];by_cases e:i<k
  ·rw [if_pos e];have:=h.fit i e;exact ⟨⟨this.1.1,by omega⟩,this.2⟩
  ·rw [if_neg e,if_pos (by omega)];exact ⟨⟨(by decide:(1:Int)≤10000000),Int.le_refl _⟩,p1,p2⟩
 ·rw [hl] at hi;rw [getD_snoc,getD_snoc,h.len];by_cases e:i<k
  ·rw [if_pos (by omega),if_pos e];exact h.rise i h1 e
  ·rw [if_pos (by omega),if_neg e,if_pos (by omega)];have:=(h.fit (i - 1) (by omega)).1.2;show _<(10000000:Int);omega
 ·unfold Ends;rw [hl,show k+1 - 1=k by omega,getD_snoc,h.len,if_neg (by omega),if_pos rfl]
end tar
section
open Go.RowKit
theorem wp_wholeG {P:Program} {ops:Array Oper} {rest:List Oper} {o:Oper} {a:Act} {w:World} {Q:Exit→Act→World→Prop} (hw:Region.wanted o (yielded ops a.tmps)=true) (ty:TypeId) (x:Operand) (ho:o.op = .load ty x)
  (g:Nat) (hx:a.eval x = .pointer (some ⟨g,0,none⟩)) (t:TypeId) (cs:Array Value) (d:TypeDesc) (hB:Blk w g cs t)
  (hu:P.underlying ty=some d) (hd:d.isRow=true) (hi:(P.info? ty).map (·.size)=some cs.size)
  (h:wpList P ops Q rest (a.put o.dst (.agg cs)) w):wpList P ops Q (o :: rest) a w:=
 wpList_step fun K hK=>by
  rw [if_pos hw];exact wp_load_mid (P:=P) (op:=o) (a:=a) (w:=w) (K:=K) (Q:=Q) ty x ho g 0 hx cs.toList d (fun j v hv=>by rw [Nat.zero_add,hB.cell j];simpa using hv) hu hd (by simpa using hi) (by simpa using hK _ _ h)
end
namespace vnd
open book (Ev ev0 Cm cm0 So so0 Sees)
open acc (Ac Tm Bi)
open ora (Pr)
open cell (Wr RowU)
open rcp (Rc rc0)
open Go.RowKit
def KvLoad:Prop:=∀ (W:World) (t:Tm) (pt:Option Addr) (lt ct:Nat) (a:Option Addr) (n cap:Nat) (c:List Int),acc.TCame W t pt lt ct→Dk W a n cap c→Calls Tryz.prog 15 #[t.v pt lt ct,.slice a n cap] W fun e w'=>LoadPost W t c e w'
end vnd
namespace book
open Go.RowKit
open acc (Ac Tm Bi APost BPost OweIs SellIs GrantIs RekeyIs)
theorem acc_upd {w W:World} {g:Nat} {cs:Array Value} {ty:TypeId} {a:Option Addr} {n cap:Nat} {zs:List tar.Du} (h:tar.Came w a n cap zs) (hU:Upd w W g cs ty) (hne:0<n→∀ x,a=some x→x.block≠g):tar.Came W a n cap zs:=by
 refine ⟨⟨h.row.1,?_⟩,h.nil,h.room,h.bytes,h.wf⟩;rcases h.row.2 with h0 | ⟨b,off,rfl,hc⟩
 ·exact .inl h0
 ·refine .inr ⟨b,off,rfl,fun i hi=>?_⟩;have h1:=hc i hi;have hb:b≠g:=hne (by omega) ⟨b,off,none⟩ rfl;rw [hU.cell ⟨b,off+i*2,none⟩ hb rfl,hU.cell ⟨b,off+i*2+1,none⟩ hb rfl];exact h1
theorem lo_upd {w W:World} {base g:Nat} {cs:Array Value} {t:TypeId} {v:Value} {l:List So} (h:Lo w base v l) (hU:Upd w W g cs t) (hg:∀ k,v.ownBlock=some k→k≠g):Lo W base v l:=by
 refine ⟨h.1,?_⟩;rcases h.2 with hn | ⟨g',cap,cur,hv,hb,hc,rest⟩
 ·exact .inl hn
 ·exact .inr ⟨g',cap,cur,hv,hb,by rw [hU.oth g' (hg g' (by rw [hv];rfl))];exact hc,rest⟩
open acc (TFault TRight OpenIs)
theorem lc_upd2 {w W:World} {base g:Nat} {cs:Array Value} {t:TypeId} {v:Value} {l:List Cu} (h:Lc w base v l) (hU:Upd w W g cs t) (hg:g<base):Lc W base v l:=by
 refine ⟨h.1,?_⟩;rcases h.2 with hn | ⟨g',cap,cur,hv,hb,hc,rest⟩
 ·exact .inl hn
 ·exact .inr ⟨g',cap,cur,hv,hb,by rw [hU.oth g' (by omega)];exact hc,rest⟩
theorem Holds.upd {w W:World} {base g:Nat} {cs:Array Value} {t:TypeId} {V:Value} {xs:List Cu} {bk:List Cm} (h:Holds w base V xs bk) (hU:Upd w W g cs t) (hg:g<base):Holds W base V xs bk:=
 ⟨lc_upd2 h.row hU hg,h.len,fun i hi=>⟨(h.has i hi).num,⟨acc_upd (h.has i hi).ds.came hU (fun hn y hy q=>by have:=(h.has i hi).ds.new hn y hy;omega),(h.has i hi).ds.new⟩,lo_upd (h.has i hi).so hU (fun k hk q=>by have:=(World.ownsRow.lt (h.has i hi).so k hk).1;omega)⟩,h.off,h.self,h.apart⟩
theorem blk_kept {w w':World} {own:Option Nat} {g:Nat} {cs:Array Value} {ty:TypeId} (h:Blk w g cs ty) (hg:w.grownBy w' own) (hne:some g≠own):Blk w' g cs ty:=by
 show w'.heap[g]?=_;rw [hg.block g h.lt hne];exact h
def BookPost (w:World) (t:Tm) (l:List Ev) (e:Ending) (w':World):Prop:=∃ p m cap xs bk at_ f,e = .returned (.tuple #[.agg #[.slice p m cap],zI at_,zI f])∧BookIs t l bk at_ f∧Sees w' p m xs bk∧m≤120∧Below w.heap.size w w'
theorem getD_mem {bk:List Cm} {j:Nat} (h:j<bk.length):bk.getD j cm0∈bk:=by
 have e:bk.getD j cm0=bk[j]:=by simp [List.getD,List.getElem?_eq_getElem h]
 rw [e];exact List.getElem_mem _
theorem sees_nil (w:World):Sees w none 0 [] []:=⟨⟨rfl,.inl rfl⟩,rfl,(fun i hi=>by cases hi),(fun i hi=>by cases hi),(fun i hi=>by cases hi)⟩
def Differ (a b:Ac):Prop:=a.me=b.me∧(a.nx≠b.nx∨((a.me=b.me∧a.rv=b.rv∧a.nx=b.nx∧a.mo=b.mo∧a.bo=b.bo∧a.fr=b.fr)∧a.ds.length≠b.ds.length))
end book
namespace acc
open tar (Du du0 Came RowD Ld PairT)
open Go.RowKit
theorem keep_acc (x:Ac) (p p2:Option Addr) (len cap cap2:Nat) (w:World) (h:Came w p len cap x.ds) (h2:Came w p2 len cap2 x.ds):Calls Tryz.prog 41 #[x.v p len cap,x.v p2 len cap2] w fun e w'=>e = .returned (.bool true)∧Below w.heap.size w w':=by
 unfold Ac.v Ac.cs;obtain ⟨W0,HWW,H0d,H0e,H0B,hs0⟩:=sh2 w #[zI x.me,zI x.rv,zI x.nx,zI x.mo,zI x.bo,zI x.fr,.slice p len cap] 51 #[zI x.me,zI x.rv,zI x.nx,zI x.mo,zI x.bo,zI x.fr,.slice p2 len cap2] 51;have H0C:Hid (Came W0 p len cap x.ds):=h.below H0B.o;have H0D:Hid (Came W0 p2 len cap2 x.ds):=h2.below H0B.o;go_enter Tryz.func41,Tryz.ntmps41;go_upto_region 1 with fail
 rw [HWW.o];clear HWW;have HSD:Hid (Calls Tryz.prog 74 #[.slice p len cap,.slice p2 len cap2] W0 fun e w'=>e = .returned (.bool true)∧Below W0.heap.size W0 w'):=deb.keep_debts p p2 len cap cap2 x.ds W0 H0C.o.row H0D.o.row H0C.o.most;clear h h2 H0C H0D;have n0:(x.me != x.me)=false:=by simp
 have n1:(x.rv != x.rv)=false:=by simp
 have n2:(x.nx != x.nx)=false:=by simp
 have n3:(x.mo != x.mo)=false:=by simp
 have n4:(x.bo != x.bo)=false:=by simp
 have n5:(x.fr != x.fr)=false:=by simp
 obtain ⟨qd0,qd1,qd2,qd3,qd4,qd5,qd6⟩:=scl7 H0d;obtain ⟨qe0,qe1,qe2,qe3,qe4,qe5,qe6⟩:=scl7 H0e;clear H0d H0e;go_wp2_with fail;refine HSD.o.mono ?_;rintro e w2 ⟨rfl,hb2⟩;have H2B:=shB H0B hb2;clear hb2 HSD;go_wp2_with fail;go_ret;exact ⟨rfl,H2B.o⟩
end acc
namespace token
def hasI (lo hi n:Int):Bool:=decide (lo≤n) && decide (n≤hi)
def amLo (c:Int):Int:=if c=0 then 1 else if c=1 then 0 else if c=2 then 1 else 0
def amHi (c:Int):Int:=if c=0 then 2097151 else if c=1 then 0 else if c=2 then 15 else 0
def flawT (c i a t:Int):Int:=if c<0∨3<c then 9 else if hasI 1 1048575 i && (hasI (amLo c) (amHi c) a && hasI 0 65535 t) then 0 else 2
theorem flawT_class {c i a t:Int} (h:c<0∨3<c):flawT c i a t=9:=by unfold flawT;rw [if_pos h]
theorem flawT_in {c i a t:Int} (h:¬ (c<0∨3<c)):flawT c i a t=if hasI 1 1048575 i && (hasI (amLo c) (amHi c) a && hasI 0 65535 t) then 0 else 2:=by unfold flawT;rw [if_neg h]
theorem flaw_tok {k:Tok}:flawT k.c k.i k.a k.t=0↔k.ok:=by
 rw [← okB_ok];unfold flawT okB hasI amLo amHi;rcases (by omega:k.c=0∨k.c=1∨k.c=2∨k.c=3∨4≤k.c) with h | h | h | h | h
 ·simp [h];omega
 ·simp [h];omega
 ·simp [h];omega
 ·simp [h];omega
 ·have h1:(3:Int)<(k.c:Int):=by omega
  have h2:¬ k.c≤3:=by omega
  simp [h1,h2]
open Go.RowKit
theorem Eight.cell {w:World} {g:Nat} {a0 a1 a2 a3 a4 a5 a6 a7:Int} (h:Eight w g a0 a1 a2 a3 a4 a5 a6 a7) :
  w.cell? ⟨g,0,none⟩=some (zI a0)∧w.cell? ⟨g,1,none⟩=some (zI a1)∧w.cell? ⟨g,2,none⟩=some (zI a2)∧w.cell? ⟨g,3,none⟩=some (zI a3) ∧
  w.cell? ⟨g,4,none⟩=some (zI a4)∧w.cell? ⟨g,5,none⟩=some (zI a5)∧w.cell? ⟨g,6,none⟩=some (zI a6)∧w.cell? ⟨g,7,none⟩=some (zI a7):=by
 obtain ⟨t,fr,h⟩:=h;simp [World.cell?,h]
theorem has_any (lo hi n:Int) (w:World) :
  Calls Tryz.prog 128 #[.agg #[zI lo,zI hi],zI n] w fun e w'=>e = .returned (.bool (hasI lo hi n))∧Below w.heap.size w w':=by
 have hb:Below w.heap.size w (w.alloc (.cells #[zI lo,zI hi] 221)):=(Below.refl _ _).alloc (Nat.le_refl _) _;by_cases h:lo≤n
 ·have e:hasI lo hi n=decide (n≤hi):=by simp [hasI,h]
  rw [e];go_enter Tryz.func128,Tryz.ntmps128;go_wp2;go_ret;exact ⟨rfl,hb⟩
 ·have e:hasI lo hi n=false:=by simp [hasI,h]
  have h':n<lo:=by omega
  rw [e];go_enter Tryz.func128,Tryz.ntmps128;go_wp2;go_ret;exact ⟨rfl,hb⟩
end token
namespace words
open Go.RowKit
theorem run_timesStep (args:Array Value) (w:World):(callFunc 130 args).run Tryz.prog w = .ok (.enter 130 args) w:=by kernel_rfl
theorem times_any (x:W3) (m:Int) (w:World) (hx:x.ok) (m0:0≤m) (m1:m<4294967296) :
  Calls Tryz.prog 86 #[wv x,.int .u32 m] w fun e w'=>e = .returned (.tuple #[wv (timesW x m),.int .u32 (timesO x m)])∧Below w.heap.size w w':=by
 obtain ⟨x0,x1,x2⟩:=x;obtain ⟨⟨h0,h0'⟩,⟨h1,h1'⟩,h2,h2'⟩:=hx;simp only at h0 h0' h1 h1' h2 h2';go_enter Tryz.func86,Tryz.ntmps86;go_wp2_with fail;obtain ⟨p0,p0'⟩:=prod_bd h0 h0' m0 m1;obtain ⟨p1,p1'⟩:=prod_bd h1 h1' m0 m1;obtain ⟨p2,p2'⟩:=prod_bd h2 h2' m0 m1;have hc:=trio_d w #[.int .u32 x0,.int .u32 x1,.int .u32 x2] (.int .u32 m) 99 (.int .u32 0) (.int .u32 0) (.int .u32 0) (.int .u64 0) 223;have hb3:=bel4 w (.cells #[.int .u32 x0,.int .u32 x1,.int .u32 x2] 131) (.cells #[.int .u32 m] 99) (.cells #[.int .u32 0,.int .u32 0,.int .u32 0] 131) (.cells #[.int .u64 0] 223);have e0:(0:Int)+x0*m=x0*m:=by omega
 refine (upward_any 130 #[.pointer (some ⟨w.heap.size+1+1+1,0,none⟩),.pointer (some ⟨w.heap.size+1,0,none⟩)] (w.heap.size+1+1+1) (.int .u64 0) (.int .u64 ((x0*m) / 4294967296)) (.int .u64 (((x0*m) / 4294967296+x1*m) / 4294967296)) (.int .u64 ((((x0*m) / 4294967296+x1*m) / 4294967296+x2*m) / 4294967296)) x0 x1 x2
  ((x0*m) % 4294967296) (((x0*m) / 4294967296+x1*m) % 4294967296) ((((x0*m) / 4294967296+x1*m) / 4294967296+x2*m) % 4294967296) _ (Acc.refl hc.1 hc.2.1) run_timesStep
  (fun w' h=>by have:=timesStep_any (w.heap.size+1+1+1) (w.heap.size+1) 0 x0 m w' h.cell h.free (h.keep hc.2.2.2 (by omega)) (by omega) (by omega) h0 h0' m0 m1;rw [e0] at this;exact this)
  (fun w' h=>timesStep_any _ _ _ _ _ w' h.cell h.free (h.keep hc.2.2.2 (by omega)) (by omega) (by omega) h1 h1' m0 m1)
  (fun w' h=>timesStep_any _ _ _ _ _ w' h.cell h.free (h.keep hc.2.2.2 (by omega)) (by omega) (by omega) h2 h2' m0 m1)).mono ?_
 rintro e w1 ⟨he,hA⟩;have hR:Trio w1 (w.heap.size+1+1) (.int .u32 0) (.int .u32 0) (.int .u32 0):=hc.2.2.1.acc hA (by omega);have HB:Hid (Below w.heap.size w w1):=hA.below hb3 (by omega);have hcell:=hA.cell;have hsz:w.heap.size+1+1+1<w1.heap.size:=Nat.lt_of_lt_of_le hA.old hA.size;have EW:wv (timesW ⟨x0,x1,x2⟩ m) = .agg #[.int .u32 ((x0*m) % 4294967296),.int .u32 (((x0*m) / 4294967296+x1*m) % 4294967296),.int .u32 ((((x0*m) / 4294967296+x1*m) / 4294967296+x2*m) % 4294967296)]:=rfl;have EO:timesO ⟨x0,x1,x2⟩ m=(((x0*m) / 4294967296+x1*m) / 4294967296+x2*m) / 4294967296:=rfl;have z0:0≤(((x0*m) / 4294967296+x1*m) / 4294967296+x2*m) / 4294967296:=by omega
 have z1:(((x0*m) / 4294967296+x1*m) / 4294967296+x2*m) / 4294967296<4294967296:=by omega
 have HE:Hid (.returned (.tuple #[wv (timesW ⟨x0,x1,x2⟩ m),.int .u32 (timesO ⟨x0,x1,x2⟩ m)])=Ending.returned (.tuple #[.agg #[.int .u32 ((x0*m) % 4294967296),.int .u32 (((x0*m) / 4294967296+x1*m) % 4294967296),.int .u32 ((((x0*m) / 4294967296+x1*m) / 4294967296+x2*m) % 4294967296)],.int .u32 ((((x0*m) / 4294967296+x1*m) / 4294967296+x2*m) / 4294967296)])):=by
  have:Ending.returned (.tuple #[wv (timesW ⟨x0,x1,x2⟩ m),.int .u32 (timesO ⟨x0,x1,x2⟩ m)])=Ending.returned (.tuple #[.agg #[.int .u32 ((x0*m) % 4294967296),.int .u32 (((x0*m) / 4294967296+x1*m) % 4294967296),.int .u32 ((((x0*m) / 4294967296+x1*m) / 4294967296+x2*m) % 4294967296)],.int .u32 ((((x0*m) / 4294967296+x1*m) / 4294967296+x2*m) / 4294967296)]):=by rw [EW,EO]
  exact this
 clear hA hc hb3 EW EO e0 p0 p0' p1 p1' p2 p2';have HE2:Hid (e = .returned (.agg #[.int .u32 ((x0*m) % 4294967296),.int .u32 (((x0*m) / 4294967296+x1*m) % 4294967296),.int .u32 ((((x0*m) / 4294967296+x1*m) / 4294967296+x2*m) % 4294967296)])):=he;clear he;generalize hz:(((x0*m) / 4294967296+x1*m) / 4294967296+x2*m) / 4294967296=z at hcell z0 z1 HE HE2;generalize hy0:(x0*m) % 4294967296=y0 at HE HE2;generalize hy1:((x0*m) / 4294967296+x1*m) % 4294967296=y1 at HE HE2;generalize hy2:(((x0*m) / 4294967296+x1*m) / 4294967296+x2*m) % 4294967296=y2 at HE HE2;clear hz hy0 hy1 hy2;obtain rfl:=HE2.o;clear HE2;have hR:=hR.alloc (.cells #[.int .u32 y0,.int .u32 y1,.int .u32 y2] 131);have r0:=hR.c0;have r1:=hR.c1;have r2:=hR.c2;have g0:=hR.free 0;have g1:=hR.free 1;have g2:=hR.free 2;have HR:Hid (Trio (w1.alloc (.cells #[.int .u32 y0,.int .u32 y1,.int .u32 y2] 131)) (w.heap.size+1+1) (.int .u32 0) (.int .u32 0) (.int .u32 0)):=hR;clear hR;go_wp2_with fail;go_region
 all_goals go_wp2_with fail
 have RR:=((HR.o.set0 (.int .u32 y0)).set1 (.int .u32 y1)).set2 (.int .u32 y2);refine bodyPost_ret (v:= .tuple #[.agg #[.int .u32 y0,.int .u32 y1,.int .u32 y2],.int .u32 z]) (by simp [results,Tryz.results86,RR.c0,RR.c1,RR.c2,go_sem]) rfl ⟨HE.o.symm,?_⟩;exact below_put (HB.o.alloc HB.o.size _) _ _ _ _ _ _ _ (by omega)
end words
namespace acc
open tar (Du)
open Go.RowKit
def KcSell:Prop:=∀ (W:World) (x:Ac) (p:Option Addr) (len cap:Nat) (t:Tm) (pt:Option Addr) (lt ct:Nat) (te m:Int),ACame W x p len cap→TCame W t pt lt ct→(Lit.int .i64 te).wf=true→(Lit.int .i64 m).wf=true→Calls Tryz.prog 81 #[x.v p len cap,t.v pt lt ct,zI te,zI m] W fun e w'=>BPost W (SellIs x t te m) e w'
open tar (du0 Came RowD Ld PairT)
theorem pgrant (g:Nat) (x:Ac) (p:Option Addr) (len cap:Nat) (t:Tm) (pt:Option Addr) (lt ct:Nat) (m:Int) (w:World) (hw:Blk w g (wcs x bi0 p len cap) 252) (hd:deb.Fresh w (g+1) p len cap x.ds) (ha:AMay x) (ht:Came w pt lt ct t.ts) (hwf:wf4 t) (hfar:Far pt lt g):Calls Tryz.prog 121 #[.pointer (some ⟨g,0,none⟩),.agg #[.slice pt lt ct,zI t.ff,zI t.fb,zI t.db,zI t.al],zI m] w fun e w'=>DPost w g (Or0 (GrantIs x t m)) e w':=by
 have hgl:=hw.lt;have H0B:Hid (Below w.heap.size w (w.alloc (.cells #[.slice pt lt ct,zI t.ff,zI t.fb,zI t.db,zI t.al] 24))):=(Below.refl w.heap.size w).alloc (by simp) _;have H0C:Hid (Chg w (w.alloc (.cells #[.slice pt lt ct,zI t.ff,zI t.fb,zI t.db,zI t.al] 24)) g):= .of H0B.o;have H0t:Hid (Blk (w.alloc (.cells #[.slice pt lt ct,zI t.ff,zI t.fb,zI t.db,zI t.al] 24)) (w.heap.size) #[.slice pt lt ct,zI t.ff,zI t.fb,zI t.db,zI t.al] 24):=Blk.new w _ _;have H0g:Hid (Blk (w.alloc (.cells #[.slice pt lt ct,zI t.ff,zI t.fb,zI t.db,zI t.al] 24)) g (wcs x bi0 p len cap) 252):=hw.alloc _;have H0D:Hid (deb.Fresh (w.alloc (.cells #[.slice pt lt ct,zI t.ff,zI t.fb,zI t.db,zI t.al] 24)) (g+1) p len cap x.ds):=hd.below H0B.o;have H0T:Hid (Came (w.alloc (.cells #[.slice pt lt ct,zI t.ff,zI t.fb,zI t.db,zI t.al] 24)) pt lt ct t.ts):=ht.below H0B.o;have HFAR:Hid (Far pt lt g):=hfar;have HBG:Hid (∀ W,Blk W g (wcs x bi0 p len cap) 252→deb.Fresh W (g+1) p len cap x.ds→Came W pt lt ct t.ts→Calls Tryz.prog 160 #[.pointer (some ⟨g,0,none⟩),.agg #[.slice pt lt ct,zI t.ff,zI t.fb,zI t.db,zI t.al],zI m] W fun e w'=>DPost W g (BeginR x t m bi0) e w'):=fun W h1 h2 h3=>pbegin g x p len cap t pt lt ct bi0 m W h1 h2 ha h3 hwf hfar;have HM:Hid (AMay x):=ha;have hnx:=ha.2.2.2.1;clear hw hd ht hwf hfar ha H0B;generalize hWW:(w.alloc (.cells #[.slice pt lt ct,zI t.ff,zI t.fb,zI t.db,zI t.al] 24))=W0 at *;have HWW:Hid ((w.alloc (.cells #[.slice pt lt ct,zI t.ff,zI t.fb,zI t.db,zI t.al] 24))=W0):=hWW;clear hWW;go_enter Tryz.func121,Tryz.ntmps121;go_upto_region 1 with fail
 rw [HWW.o];clear HWW;go_wp2_with (first | (refine zqw rfl rfl rfl H0t zqu24 ?_) | fail)
 refine (HBG.o _ H0g.o H0D.o H0T.o).mono ?_;rintro e w1 ⟨y,b2,q,n,c,f,rfl,⟨hr,hb2⟩,hi1,hf1,hc1⟩;subst hb2;have H1D:Hid (deb.Fresh w1 (g+1) q n c y.ds):=hf1;have H1g:Hid (Blk w1 g #[zI y.me,zI y.rv,zI y.nx,zI y.mo,zI y.bo,zI y.fr,.slice q n c,zI 0,zI 0,zI 0,zI 0,zI 0,zI 0,zI 0] 252):=hi1;have H1t:Hid (Blk w1 (w.heap.size) #[.slice pt lt ct,zI t.ff,zI t.fb,zI t.db,zI t.al] 24):=Chg.keep (g:=g) (hc1) H0t.o (by omega);have H1T:Hid (Came w1 pt lt ct t.ts):=came_chg H0T.o (hc1) HFAR.o;have H1C:Hid (Chg w w1 g):=H0C.o.trans (hc1);clear H0C H0g H0t H0T hf1 hc1 hi1 H0D HBG;by_cases h0:f=0
 ·skip
  subst h0
  have hrr:TRight t∧RMay x m∧y=rolled x m:=by
   rcases hr with ⟨h1,h2,_⟩ | ⟨_,_,h3,_⟩ | ⟨h1,h2,h3,_⟩
   ·exact absurd (h2.ok.1 rfl) h1
   ·exact absurd rfl h3.ne
   ·exact ⟨h1,h2,h3⟩
  have HRY:Hid (Ready x t m):=⟨HM.o,hrr.1,hrr.2.1⟩
  have HT:Hid (TRight t):=hrr.1;have HBR:Hid (y=rolled x m):=hrr.2.2;have hbs:=rolled_same x m;rw [← hrr.2.2] at hbs;have hbo:=(rolled_may HM.o hrr.2.1).2.2.2.2.2.1;rw [← hrr.2.2] at hbo;have hdm:deb.Mays y.ds:=by rw [hrr.2.2];exact (rolled_may HM.o hrr.2.1).1
  have HYN:Hid (y.nx=x.nx):=hbs.2.2.1;have hyx:1≤y.nx∧y.nx≤1048576:=by rw [hbs.2.2.1];exact hnx
  have HBS:Hid (y.me=x.me∧y.rv=x.rv∧y.nx=x.nx∧y.mo=m∧y.fr=x.fr):=hbs;clear hrr hr hbs;by_cases h5:t.al=0
  ·have d5:(t.al == 0)=true:=by simpa using h5
   have HV:Hid (Or0 (GrantIs x t m) y bi0 22):= .inl ⟨by decide,.inr (.inl ⟨HRY.o,h5,rfl,rfl,rfl⟩)⟩;clear h5;have qt4:w1.cell? ⟨w.heap.size,4,none⟩=some (zI t.al):=H1t.o.cell 4;go_wp2_with fail;go_ret;exact ⟨y,bi0,q,n,c,22,rfl,HV.o,H1g.o,H1D.o,H1C.o⟩
  ·have d5:(t.al == 0)=false:=by simpa using h5
   by_cases h6:x.fr=m
   ·have d6:(y.fr == m)=true:=by simp;rw [HBS.o.2.2.2.2];exact h6
    have HV:Hid (Or0 (GrantIs x t m) y bi0 21):= .inl ⟨by decide,.inr (.inr (.inl ⟨HRY.o,h5,h6,rfl,rfl,rfl⟩))⟩;clear h5 h6;have qt4:w1.cell? ⟨w.heap.size,4,none⟩=some (zI t.al):=H1t.o.cell 4;have qg5:w1.cell? ⟨g,5,none⟩=some (zI y.fr):=H1g.o.cell 5;go_wp2_with fail;go_ret;exact ⟨y,bi0,q,n,c,21,rfl,HV.o,H1g.o,H1D.o,H1C.o⟩
   ·have d6:(y.fr == m)=false:=by simp;rw [HBS.o.2.2.2.2];exact h6
    have qt4:w1.cell? ⟨w.heap.size,4,none⟩=some (zI t.al):=H1t.o.cell 4;have qg5:w1.cell? ⟨g,5,none⟩=some (zI y.fr):=H1g.o.cell 5;go_wp2_with (first | (refine wp_let1 rfl 3 _ _ rfl g 5 rfl .i64 m rfl (by kernel_rfl) #[zI y.me,zI y.rv,zI y.nx,zI y.mo,zI y.bo,zI y.fr,.slice q n c,zI 0,zI 0,zI 0,zI 0,zI 0,zI 0,zI 0] 252 H1g.o (by simp) ?_) | fail)
    intro W2 hU;have H2g:Hid (Blk W2 g #[zI y.me,zI y.rv,zI y.nx,zI y.mo,zI y.bo,zI m,.slice q n c,zI 0,zI 0,zI 0,zI 0,zI 0,zI 0,zI 0] 252):=hU.blk;have H2t:Hid (Blk W2 (w.heap.size) #[.slice pt lt ct,zI t.ff,zI t.fb,zI t.db,zI t.al] 24):=Chg.keep (g:=g) (.upd hU) H1t.o (by omega);have H2T:Hid (Came W2 pt lt ct t.ts):=came_chg H1T.o (.upd hU) HFAR.o;have H2D:Hid (deb.Fresh W2 (g+1) q n c y.ds):=fresh_chg H1D.o (.upd hU);have H2C:Hid (Chg w W2 g):=H1C.o.trans (.upd hU);clear H1C H1g H1t H1T H1D hU qt4 qg5 d5 d6;have qt4:W2.cell? ⟨w.heap.size,4,none⟩=some (zI t.al):=H2t.o.cell 4;go_wp2_with (first | (refine wp_let1 rfl 3 _ _ rfl g 13 rfl .i64 t.al rfl (by kernel_rfl) #[zI y.me,zI y.rv,zI y.nx,zI y.mo,zI y.bo,zI m,.slice q n c,zI 0,zI 0,zI 0,zI 0,zI 0,zI 0,zI 0] 252 H2g.o (by simp) ?_) | fail)
    intro W3 hU;have H3g:Hid (Blk W3 g #[zI y.me,zI y.rv,zI y.nx,zI y.mo,zI y.bo,zI m,.slice q n c,zI 0,zI 0,zI 0,zI 0,zI 0,zI 0,zI t.al] 252):=hU.blk;have H3t:Hid (Blk W3 (w.heap.size) #[.slice pt lt ct,zI t.ff,zI t.fb,zI t.db,zI t.al] 24):=Chg.keep (g:=g) (.upd hU) H2t.o (by omega);have H3T:Hid (Came W3 pt lt ct t.ts):=came_chg H2T.o (.upd hU) HFAR.o;have H3D:Hid (deb.Fresh W3 (g+1) q n c y.ds):=fresh_chg H2D.o (.upd hU);have H3C:Hid (Chg w W3 g):=H2C.o.trans (.upd hU);clear H2C H2g H2t H2T H2D hU qt4
    have HGV:Hid (⟨y.me,y.rv,y.nx+1,y.mo,y.bo,m,y.ds⟩=granted x m):=by
     show _=_;unfold granted;rw [← HBR.o,HBS.o.1,HBS.o.2.1,HBS.o.2.2.1,HBS.o.2.2.2.1]
    have HNU:Hid (Calls Tryz.prog 161 #[.pointer (some ⟨g,0,none⟩)] W3 fun e w'=>NumPost W3 g ⟨y.me,y.rv,y.nx,y.mo,y.bo,m,y.ds⟩ ⟨0,0,0,0,0,0,t.al⟩ q n c e w'):=pnum g ⟨y.me,y.rv,y.nx,y.mo,y.bo,m,y.ds⟩ ⟨0,0,0,0,0,0,t.al⟩ q n c W3 H3g.o hyx;go_wp2_with fail;refine HNU.o.mono ?_;rintro e wN ⟨hcN,⟨hx,rfl,hiN⟩ | ⟨hx,rfl,hiN⟩⟩
    ·have HV:Hid (Or0 (GrantIs x t m) ⟨y.me,y.rv,y.nx,y.mo,y.bo,m,y.ds⟩ ⟨0,0,0,0,0,0,t.al⟩ 20):= .inl ⟨by decide,.inr (.inr (.inr (.inl ⟨HRY.o,h5,h6,by rw [← HYN.o];exact hx,rfl,rfl,rfl⟩)))⟩;have HDN:=fresh_chg H3D.o hcN;have HCN:=H3C.o.trans hcN;clear HNU hx;go_wp2_with fail;go_ret;exact ⟨⟨y.me,y.rv,y.nx,y.mo,y.bo,m,y.ds⟩,⟨0,0,0,0,0,0,t.al⟩,q,n,c,20,rfl,HV.o,hiN,HDN,HCN⟩
    ·have HV:Hid (Or0 (GrantIs x t m) ⟨y.me,y.rv,y.nx+1,y.mo,y.bo,m,y.ds⟩ ⟨y.nx,0,0,0,0,0,t.al⟩ 0):= .inr ⟨rfl,.inr (.inr (.inr (.inr ⟨HRY.o,h5,h6,by rw [← HYN.o];exact hx,rfl,HGV.o,by rw [HYN.o]⟩)))⟩;have HDN:=fresh_chg H3D.o hcN;have HCN:=H3C.o.trans hcN;clear HNU hx;go_wp2_with fail;go_ret;exact ⟨⟨y.me,y.rv,y.nx+1,y.mo,y.bo,m,y.ds⟩,⟨y.nx,0,0,0,0,0,t.al⟩,q,n,c,0,rfl,HV.o,hiN,HDN,HCN⟩
 ·skip
  have d0:(f != 0)=true:=by simpa using h0
  have HV:Hid (Or0 (GrantIs x t m) y bi0 f):=by
   refine .inl ⟨h0,.inl ⟨?_,rfl,rfl⟩⟩;rcases hr with ⟨h1,h2,_⟩ | ⟨h1,h2,h3,_⟩ | ⟨_,_,_,h1⟩
   ·exact .inr (.inl ⟨HM.o,h1,h2⟩)
   ·exact .inr (.inr ⟨HM.o,h1,h2,h3⟩)
   ·exact absurd h1 h0
  clear hr h0;go_wp2_with fail;go_ret;exact ⟨y,bi0,q,n,c,f,rfl,HV.o,H1g.o,H1D.o,H1C.o⟩
def KcGrant:Prop:=∀ (W:World) (x:Ac) (p:Option Addr) (len cap:Nat) (t:Tm) (pt:Option Addr) (lt ct:Nat) (m:Int),ACame W x p len cap→TCame W t pt lt ct→(Lit.int .i64 m).wf=true→Calls Tryz.prog 77 #[x.v p len cap,t.v pt lt ct,zI m] W fun e w'=>BPost W (GrantIs x t m) e w'
end acc
section
open Go.RowKit
theorem wp_letOpN {P:Program} {o:Oper} {a:Act} {w:World} {K:Act→World→Prop} {Q:Exit→Act→World→Prop} (ty:TypeId) (x y:Operand) (ho:o.op = .store ty x y)
  (g off:Nat) (hx:a.eval x = .pointer (some ⟨g,off,none⟩)) (v:Value) (hy:a.eval y=v) (cells:Array Value) (hv:v.cells=cells) (hi:(P.info? ty).map (·.size)=some cells.size) (h1:cells.all (·.oneCell')=true)
  (cs:Array Value) (t:TypeId) (hB:Blk w g cs t) (hin:off+cells.size≤cs.size) (new:Array Value) (hnew:putAll cs off cells.toList=new) (hd:o.dst=none)
  (h:∀ W,Upd w W g new t→K a W):o.wp P a w K Q:=by
 have hs:=run_storeVar_let (P:=P) (w:=w) (g:=g) (off:=off) (ty:=ty) (t:=t) (v:=v) (cells:=cells) (cs:=cs) hv hi h1 hB hin;have hu:=upd_cells g t cells.toList off w cs hB;rw [hnew] at hu;unfold Oper.wp execOp;simp only [ho,hx,hy,Instr.storeAt,Instr.sureAddr,Sem.run_bind,Sem.run_pure,Result.andThen_ok,hs];have:=h _ hu;have e:a.put o.dst undef=a:=by rw [hd];rfl
 rw [← e] at this;exact this
theorem wp_callOpP {P:Program} {o:Oper} {a:Act} {w:World} {f:FuncId} {args:Array Value} {R:Ending→World→Prop} {K:Act→World→Prop} {Q:Exit→Act→World→Prop} (d:Nat) (hd:o.dst=some d) (hrun:(execOp a.eval o).run P w = .ok (.enter f args) w) (hc:Calls P f args w R)
  (h:∀ e w',R e w'→(∃ v,e = .returned v∧K (a.put (some d) v) w')∨∃ c,e = .panicked c∧Q (.panic c) a w'):o.wp P a w K Q:=by
 rw [← hd] at h;unfold Oper.wp;rw [hrun,Oper.upon_enter];refine hc.mono fun e w' hr=>?_;rcases h e w' hr with ⟨v,rfl,hk⟩ | ⟨c,rfl,hk⟩
 ·exact hk
 ·exact hk
theorem wp_mapOp {P:Program} {o:Oper} {a:Act} {w W:World} {K:Act→World→Prop} {Q:Exit→Act→World→Prop} (ty:TypeId) (x y z:Operand) (ho:o.op = .mapUpdate ty x y z) (vx vy vz:Value) (hx:a.eval x=vx) (hy:a.eval y=vy) (hz:a.eval z=vz)
  (hr:(Instr.mapUpdate ty vx vy vz).run P w = .ok () W) (hd:o.dst=none) (h:K a W):o.wp P a w K Q:=by
 unfold Oper.wp execOp;simp only [ho,hx,hy,hz,Sem.run_bind,Sem.run_pure,Result.andThen_ok,hr];have e:a.put o.dst undef=a:=by rw [hd];rfl
 rw [← e] at h;exact h
end
namespace disk
open Go.RowKit cell
theorem app_yes {c:List Int} {p:Nat} {r:List Int} (h:p+r.length+1<c.length):putW p r r.length++[⟨(p:Int)+(r.length:Int)+1,0⟩]++[⟨(p:Int),(r.length:Int)⟩]=appW c p r:=by
 unfold appW zeroW;rw [if_pos h,List.append_assoc,show ((p+r.length+1:Nat):Int)=(p:Int)+(r.length:Int)+1 by omega]
theorem app_no {c:List Int} {p:Nat} {r:List Int} (h:¬ p+r.length+1<c.length):putW p r r.length++[⟨(p:Int),(r.length:Int)⟩]=appW c p r:=by
 unfold appW zeroW;rw [if_neg h,List.nil_append]
end disk
namespace words
open Go.RowKit
theorem downward_any (K:Nat) (caps:Array Value) (B:Nat) (v0 v1 v2 v3:Value) (x0 x1 x2 y0 y1 y2:Int) (w:World) (h:Acc w w B v0) (hK:∀ args w,(callFunc K args).run Tryz.prog w = .ok (.enter K args) w)
  (s0:∀ w',Acc w w' B v0→Calls Tryz.prog K (#[.int .u32 x2]++caps) w' fun e w''=>e = .returned (.int .u32 y2)∧Acc w' w'' B v1)
  (s1:∀ w',Acc w w' B v1→Calls Tryz.prog K (#[.int .u32 x1]++caps) w' fun e w''=>e = .returned (.int .u32 y1)∧Acc w' w'' B v2)
  (s2:∀ w',Acc w w' B v2→Calls Tryz.prog K (#[.int .u32 x0]++caps) w' fun e w''=>e = .returned (.int .u32 y0)∧Acc w' w'' B v3) :
  Calls Tryz.prog 133 #[.agg #[.int .u32 x0,.int .u32 x1,.int .u32 x2],.func (.func K) #[] caps] w fun e w'=>e = .returned (.agg #[.int .u32 y0,.int .u32 y1,.int .u32 y2])∧Acc w w' B v3:=by
 have HS0:Hid (∀ w',Acc w w' B v0→Calls Tryz.prog K (#[.int .u32 x2]++caps) w' fun e w''=>e = .returned (.int .u32 y2)∧Acc w' w'' B v1):=s0;have HS1:Hid (∀ w',Acc w w' B v1→Calls Tryz.prog K (#[.int .u32 x1]++caps) w' fun e w''=>e = .returned (.int .u32 y1)∧Acc w' w'' B v2):=s1;have HS2:Hid (∀ w',Acc w w' B v2→Calls Tryz.prog K (#[.int .u32 x0]++caps) w' fun e w''=>e = .returned (.int .u32 y0)∧Acc w' w'' B v3):=s2;have HA:Hid (Acc w w B v0):=h;clear s0 s1 s2 h;go_enter Tryz.func133,Tryz.ntmps133;go_wp2_with fail;refine wp_loop_rounds 4 ?_;rw [rounds_succ];go_wp2_with fail;refine (HS0.o _ ((HA.o.alloc _).alloc _)).mono ?_;rintro e w1 ⟨rfl,h1⟩;have hB:=HA.o.old;have T1:Trio w1 w.heap.size (.int .u32 x0) (.int .u32 x1) (.int .u32 x2):=(trio_a _ _ _ _ _).acc h1 (by omega);have R1:Trio w1 (w.heap.size+1) (.int .u32 0) (.int .u32 0) (.int .u32 0):=(trio_b _ _ _ _ _).acc h1 (by omega);have A1:=((HA.o.alloc _).alloc _).trans h1;have c2:=T1.c2;have f2:=T1.free 2;have T1':=T1.set2 (.int .u32 y2);have d1:=T1'.c1;have HT:Hid (Trio (w1.setCell ⟨w.heap.size,2,none⟩ (.int .u32 y2)) w.heap.size (.int .u32 x0) (.int .u32 x1) (.int .u32 y2)):=T1';have HR:Hid (Trio (w1.setCell ⟨w.heap.size,2,none⟩ (.int .u32 y2)) (w.heap.size+1) (.int .u32 0) (.int .u32 0) (.int .u32 0)):=R1.other _ _ (by omega);have HA1:Hid (Acc w (w1.setCell ⟨w.heap.size,2,none⟩ (.int .u32 y2)) B v1):=A1.setNew _ _ _ (Nat.le_refl _);clear h1 T1 R1 A1 T1' HA HS0;go_wp2_with fail;rw [rounds_succ];go_wp2_with fail;refine (HS1.o _ HA1.o).mono ?_;rintro e w2 ⟨rfl,h2⟩;have T2:=HT.o.acc h2 (by omega);have R2:=HR.o.acc h2 (by omega);have A2:=HA1.o.trans h2;clear c2 f2 d1 HT HR HA1 HS1 h2;have c1:=T2.c1;have f1:=T2.free 1;have T2':=T2.set1 (.int .u32 y1);have d2:=T2'.c0;have HT:Hid (Trio (w2.setCell ⟨w.heap.size,1,none⟩ (.int .u32 y1)) w.heap.size (.int .u32 x0) (.int .u32 y1) (.int .u32 y2)):=T2';have HR:Hid (Trio (w2.setCell ⟨w.heap.size,1,none⟩ (.int .u32 y1)) (w.heap.size+1) (.int .u32 0) (.int .u32 0) (.int .u32 0)):=R2.other _ _ (by omega)
 have HA2:Hid (Acc w (w2.setCell ⟨w.heap.size,1,none⟩ (.int .u32 y1)) B v2):=A2.setNew _ _ _ (Nat.le_refl _);clear T2 R2 A2 T2';go_wp2_with fail;rw [rounds_succ];go_wp2_with fail;refine (HS2.o _ HA2.o).mono ?_;rintro e w3 ⟨rfl,h3⟩;have T3:=HT.o.acc h3 (by omega);have R3:=HR.o.acc h3 (by omega);have A3:=HA2.o.trans h3;clear c1 f1 d2 HT HR HA2 HS2 h3;have c0:=T3.c0;have f0:=T3.free 0;have T3':=T3.set0 (.int .u32 y0);have R3':=R3.other (G':=w.heap.size) 0 (.int .u32 y0) (by omega);have e0:=T3'.c0;have e1:=T3'.c1;have e2:=T3'.c2;have r0:=R3'.c0;have r1:=R3'.c1;have r2:=R3'.c2;have g0:=R3'.free 0;have g1:=R3'.free 1;have g2:=R3'.free 2;have HR3:Hid (Trio (w3.setCell ⟨w.heap.size,0,none⟩ (.int .u32 y0)) (w.heap.size+1) (.int .u32 0) (.int .u32 0) (.int .u32 0)):=R3';have HA3:Hid (Acc w (w3.setCell ⟨w.heap.size,0,none⟩ (.int .u32 y0)) B v3):=A3.setNew _ _ _ (Nat.le_refl _);clear T3 R3 A3 T3' R3';go_wp2_with fail;rw [rounds_succ];go_wp2_with fail;have RR:=((HR3.o.set0 (.int .u32 y0)).set1 (.int .u32 y1)).set2 (.int .u32 y2);have AA:=((HA3.o.setNew (w.heap.size+1) 0 (.int .u32 y0) (by omega)).setNew (w.heap.size+1) 1 (.int .u32 y1) (by omega)).setNew (w.heap.size+1) 2 (.int .u32 y2) (by omega);refine bodyPost_ret (v:= .agg #[.int .u32 y0,.int .u32 y1,.int .u32 y2]) (by simp [results,Tryz.results133,RR.c0,RR.c1,RR.c2,go_sem]) rfl ⟨rfl,AA⟩
end words
namespace rct
open Go.RowKit
theorem met_tail {P:Program} {x:String × DataW Unit} {rest:List (String × DataW Unit)} {W:World} (h:laidMet P (x :: rest) W):laidMet P rest W:=by
 obtain ⟨ps,hv,hn,hc⟩:=h;obtain ⟨g',t',cs,fuel,p,q,hg',ht',hvar,hd,hr,rfl⟩:=hv;exact ⟨q,hr,(List.nodup_append.1 hn).2.1,fun b off hm=>hc b off (List.mem_append_right _ hm)⟩
end rct
end Go.Proofs.YtnpblpbohcegoaaGreatDoor
