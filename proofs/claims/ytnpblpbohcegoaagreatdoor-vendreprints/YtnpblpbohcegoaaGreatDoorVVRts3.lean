import Derived.Test.YtnpblpbohcegoaaGreatDoorVVRts2
set_option linter.unusedVariables false
set_option linter.unusedSimpArgs false
set_option maxHeartbeats 4000000
set_option maxRecDepth 100000
namespace Go.Proofs.YtnpblpbohcegoaaGreatDoor
namespace book
open Go.RowKit
def Ev.v (x:Ev):Value:= .agg #[zI x.kd,zI x.me,zI x.mo,zI x.id,zI x.te,zI x.de,zI x.fe,zI x.pr,zI x.ch,zI x.un,zI x.tg,zI x.ow,zI x.bp]
def Ev.cs (x:Ev):Array Value:=#[zI x.kd,zI x.me,zI x.mo,zI x.id,zI x.te,zI x.de,zI x.fe,zI x.pr,zI x.ch,zI x.un,zI x.tg,zI x.ow,zI x.bp]
def wf13 (x:Ev):Prop:=(Lit.int .i64 x.kd).wf=true∧(Lit.int .i64 x.me).wf=true∧(Lit.int .i64 x.mo).wf=true∧(Lit.int .i64 x.id).wf=true∧(Lit.int .i64 x.te).wf=true∧(Lit.int .i64 x.de).wf=true∧(Lit.int .i64 x.fe).wf=true∧(Lit.int .i64 x.pr).wf=true∧(Lit.int .i64 x.ch).wf=true∧(Lit.int .i64 x.un).wf=true∧(Lit.int .i64 x.tg).wf=true∧(Lit.int .i64 x.ow).wf=true∧(Lit.int .i64 x.bp).wf=true
theorem wf_may {x:Ev} (h:EMay x):wf13 x:=by
 have hh:=may_word h
 have q:∀ z,0≤z∧z<4294967296→(Lit.int .i64 z).wf=true:=fun z hz=>by
  simp only [Lit.wf,Bool.and_eq_true,decide_eq_true_eq];rw [show IntKind.i64.min=-9223372036854775808 from by decide,show IntKind.i64.max=9223372036854775807 from by decide];omega
 exact ⟨q _ (hh _ (by simp [evL])),q _ (hh _ (by simp [evL])),q _ (hh _ (by simp [evL])),q _ (hh _ (by simp [evL])),q _ (hh _ (by simp [evL])),q _ (hh _ (by simp [evL])),q _ (hh _ (by simp [evL])),q _ (hh _ (by simp [evL])),q _ (hh _ (by simp [evL])),q _ (hh _ (by simp [evL])),q _ (hh _ (by simp [evL])),q _ (hh _ (by simp [evL])),q _ (hh _ (by simp [evL]))⟩
end book
namespace disk
open Go.RowKit
structure Sli where
 a:Option Addr
 n:Nat
 c:Nat
def Sli.v (s:Sli):Value:= .slice s.a s.n s.c
def sl0:Sli:=⟨none,0,0⟩
def cellsR (l:List Sli):List Value:=l.map Sli.v
theorem oneR (l:List Sli):∀ u∈cellsR l,u.oneCell'=true:=fun u hu=>by
 obtain ⟨s,_,rfl⟩:=List.mem_map.1 hu;rfl
def Lr (T:TypeId) (w:World) (base:Nat) (v:Value) (l:List Sli):Prop:=w.ownsRow base T 1 v l.length (cellsR l)
theorem Lr.zero (T:TypeId) (w:World) (base:Nat):Lr T w base (zS) []:=World.ownsRow_nil _ _ _ _
theorem Lr.alloc {T:TypeId} {w:World} {base:Nat} {v:Value} {l:List Sli} (h:Lr T w base v l) (o:Obj):Lr T (w.alloc o) base v l:=World.ownsRow.alloc h o
theorem Lr.next {T:TypeId} {w w':World} {base:Nat} {v:Value} {l:List Sli} (h:Lr T w base v l) (hb:Below w.heap.size w w'):Lr T w' base v l:=by
 refine ⟨h.1,?_⟩;rcases h.2 with hn | ⟨g,cap,cur,hv,hg,hc,rest⟩
 ·exact .inl hn
 ·exact .inr ⟨g,cap,cur,hv,hg,Blk.next hc hb,rest⟩
theorem Lr.row {T:TypeId} {w:World} {base:Nat} {v:Value} {l:List Sli} (h:Lr T w base v l) (h0:0<l.length):∃ g cap,v = .slice (some ⟨g,0,none⟩) l.length cap∧base≤g∧g<w.heap.size∧l.length≤cap∧∀ i,i<l.length→w.cell? ⟨g,i,none⟩=some (l.getD i sl0).v:=by
 rcases h.2 with ⟨hv,hn⟩ | ⟨g,cap,cur,hv,hg,hc,h1,_⟩
 ·omega
 ·subst hv;refine ⟨g,cap,rfl,hg,Blk.lt hc,h1,fun i hi=>?_⟩;have e1:=World.ownsRow.cellAt h i (by omega);rw [e1];simp [cellsR,List.getD,hi]
theorem Lr.len {T:TypeId} {w:World} {base:Nat} {v:Value} {l:List Sli} (h:Lr T w base v l):∃ a cap,v = .slice a l.length cap:=by
 rcases h.2 with ⟨hv,hn⟩ | ⟨g,cap,cur,hv,_⟩
 ·exact ⟨none,0,by rw [hn];exact hv⟩
 ·exact ⟨_,cap,hv⟩
structure SliT (P:Program) (T S:TypeId):Prop where
 info:(P.info? T).map (fun i=>(i.zero,i.size,i.bytes))=some (some (sl0.v),1,24)
 under:P.underlying S=some (.slice T)
theorem wp_sli {P:Program} {T S:TypeId} (hP:SliT P T S) {w:World} {ops:Array Oper} {rest:List Oper} {o:Oper} {a:Act} {Q:Exit→Act→World→Prop} (hgd:o.guard=none) (s x:Operand)
  (ho:o.op = .call { callee:= .builtin .append,args:=#[s,x],argTypes:=#[S,S] })
  (base G:Nat) (v:Value) (l:List Sli) (r:Sli) (hs:a.eval s=v) (hx:a.eval x = .slice (some ⟨G,0,none⟩) 1 1) (hv:Lr T w base v l) (hu:w.cell? ⟨G,0,none⟩=some r.v) (hn:l.length≤1000000) (hbase:base≤w.heap.size)
  (h:∀ v' w',Lr T w' base v' (l++[r])→w.grownBy w' v.ownBlock→(v'.ownBlock=v.ownBlock∨v'.ownBlock=some w.heap.size)→wpList P ops Q rest (a.put o.dst v') w'):wpList P ops Q (o :: rest) a w:=by
 obtain ⟨i0,hi,hz0,hz1,hz2⟩:=info_parts hP.info;refine wpList_append_own_at w hgd s x S ho base T i0 (sl0.v) 1 24 hP.under hi hz0 hz1 hz2 rfl (by decide) v l.length (cellsR l) hs hv ⟨G,0,none⟩ 1 1 (cellsR [r]) hx rfl ?_ (oneR [r]) (by unfold maxLen;omega) (by omega) hbase ?_
 ·intro j u hj
  match j,hj with
  | 0,hj=>simp [cellsR] at hj;subst hj;simpa [Addr.add] using hu
  | j+1,hj=>simp [cellsR] at hj
 intro v' w' h1 h2 _ h4;refine h v' w' ?_ h2 h4;unfold Lr;rw [List.length_append];unfold cellsR at *;rw [List.map_append];exact h1
def Recs (w:World) (own:Option Nat) (l:List Sli) (zs:List (List Int)):Prop:=l.length=zs.length∧∀ i,i<l.length→(∃ b off,(l.getD i sl0).a=some ⟨b,off,none⟩∧b<w.heap.size∧some b≠own)∧cell.RowU w (l.getD i sl0).a (l.getD i sl0).n (zs.getD i [])
theorem Recs.nil (w:World) (own:Option Nat):Recs w own [] []:=⟨rfl,fun i hi=>by cases hi⟩
theorem Recs.below {w w':World} {own:Option Nat} {l:List Sli} {zs:List (List Int)} (h:Recs w own l zs) (hb:Below w.heap.size w w'):Recs w' own l zs:=⟨h.1,fun i hi=>by
 obtain ⟨⟨b,off,h1,h2,h3⟩,h4⟩:=h.2 i hi;exact ⟨⟨b,off,h1,Nat.lt_of_lt_of_le h2 hb.size,h3⟩,h4.below hb⟩⟩
theorem Recs.snoc {w:World} {own:Option Nat} {l:List Sli} {zs:List (List Int)} (h:Recs w own l zs) {s:Sli} {z:List Int} (hs:(∃ b off,s.a=some ⟨b,off,none⟩∧b<w.heap.size∧some b≠own)∧cell.RowU w s.a s.n z):Recs w own (l++[s]) (zs++[z]):=by
 refine ⟨by rw [List.length_append,List.length_append,h.1];rfl,fun i hi=>?_⟩;by_cases h1:i<l.length
 ·have e1:(l++[s]).getD i sl0=l.getD i sl0:=by simp [List.getD,List.getElem?_append_left h1]
  have e2:(zs++[z]).getD i []=zs.getD i []:=by simp [List.getD,List.getElem?_append_left (show i<zs.length from h.1 ▸ h1)]
  rw [e1,e2];exact h.2 i h1
 ·have hi':i=l.length:=by simp at hi;omega
  have e1:(l++[s]).getD i sl0=s:=by rw [hi'];simp [List.getD]
  have e2:(zs++[z]).getD i []=z:=by rw [hi',h.1];simp [List.getD]
  rw [e1,e2];exact hs
theorem Recs.grown {w w':World} {own own':Option Nat} {l:List Sli} {zs:List (List Int)} (h:Recs w own l zs) (hg:w.grownBy w' own) (ho:own'=own∨own'=some w.heap.size):Recs w' own' l zs:=⟨h.1,fun i hi=>by
 obtain ⟨⟨b,off,h1,h2,h3⟩,h4⟩:=h.2 i hi;have hb:=hg.block b h2 h3;refine ⟨⟨b,off,h1,Nat.lt_of_lt_of_le h2 hg.size,?_⟩,h4.1,?_⟩
 ·rcases ho with rfl | rfl
  ·exact h3
  ·intro e;have:=Option.some.inj e;omega
 ·rcases h4.2 with h0 | ⟨b',off',e,hc⟩
  ·exact .inl h0
  ·rw [h1] at e;have e1:=Option.some.inj e;have e2:b=b':=congrArg Addr.block e1;subst e2;refine .inr ⟨b,off',by rw [h1,e1],fun i hi=>?_⟩;rw [← hc i hi];simp [World.cell?,hb]⟩
end disk
namespace cell
open Go.RowKit
def arr (zs:List Int):Array Value:=(zs.map (Value.int .u32)).toArray
theorem arr_set (zs:List Int) (i:Nat) (v:Int):(arr zs).setIfInBounds i (.int .u32 v)=arr (zs.set i v):=by
 unfold arr;apply Array.ext';simp [List.map_set]
theorem Blk.rowU {w:World} {G n:Nat} {zs:List Int} {t:TypeId} (h:Blk w G (arr zs) t) (hn:zs.length=n):RowU w (some ⟨G,0,none⟩) n zs:=by
 refine ⟨hn,.inr ⟨G,0,rfl,fun i hi=>?_⟩⟩;rw [Nat.zero_add,h.cell i];unfold arr;simp [List.getD,show i<zs.length by omega]
theorem Blk.word {w:World} {G:Nat} {zs:List Int} {t:TypeId} (h:Blk w G (arr zs) t) (i:Nat) (hi:i<zs.length):w.cell? ⟨G,i,none⟩=some (.int .u32 (zs.getD i 0)):=by
 rw [h.cell i];unfold arr;simp [List.getD,hi]
theorem made_zero (n:Nat):madeCells (Value.int .u32 0).cells (n*1)=arr (List.replicate n 0):=by
 unfold madeCells arr;apply Array.ext';simp [Value.cells];apply List.ext_getElem
 ·simp
 ·intro i h1 h2;simp [Nat.mod_one]
theorem make_u32 (n:Nat) (h:n≤100000) (w:World):(Instr.makeSlice 25 (zI (n:Int)) (zI (n:Int))).run Tryz.prog w = .ok (.slice (some ⟨w.heap.size,0,none⟩) n n) (w.alloc (.cells (arr (List.replicate n 0)) 99)):=by
 obtain ⟨i0,hi,hz0,hz1,hz2⟩:=info_parts info_u32;have:=run_make (P:=Tryz.prog) w 25 99 i0 (.int .u32 0) Tryz.underlying25 hi hz0 .i64 .i64 n n (by omega) (by omega) (by rw [hz2];omega) (by omega);rw [hz1] at this;simp only [Int.toNat_natCast] at this;rw [made_zero] at this;exact this
end cell
section
open Go.RowKit
theorem wp_letS {P:Program} {ops:Array Oper} {rest:List Oper} {o:Oper} {a:Act} {w:World} {Q:Exit→Act→World→Prop} (hgd:o.guard=none) (ty:TypeId) (x y:Operand) (ho:o.op = .store ty x y)
  (g off:Nat) (hx:a.eval x = .pointer (some ⟨g,off,none⟩)) (p:Option Addr) (n c:Nat) (hy:a.eval y = .slice p n c) (hi:(P.info? ty).map (·.size)=some 1)
  (cs:Array Value) (t:TypeId) (hB:Blk w g cs t) (hin:off<cs.size)
  (h:∀ W,Upd w W g (cs.setIfInBounds off (.slice p n c)) t→wpList P ops Q rest (a.put o.dst undef) W):wpList P ops Q (o :: rest) a w:=
 wp_let hgd ty x y ho g off hx _ hy #[.slice p n c] rfl hi (by simp [Value.oneCell']) cs t hB (by simp;omega) _ rfl h
end
namespace cents
open Go.RowKit
theorem part_yes (a b:Int) (w:World) (h1:0≤a) (h2:a≤1000000000000) (h3:0≤b) (h4:b≤10000) :
  Calls Tryz.prog 165 #[zI a,zI b] w fun e w'=>e = .returned (.tuple #[zI (a*b / 10000),zI 0])∧Below w.heap.size w w':=by
 obtain ⟨hp1,hp2⟩:=prod_bd a b _ _ h1 h2 h3 h4;go_enter Tryz.func165,Tryz.ntmps165;go_wp2_with fail;refine (within_one_yes _ _ _ _ _ rfl h1 h2).mono ?_;rintro e w' ⟨rfl,rfl⟩;go_wp2_with fail;refine (within_one_yes _ _ _ _ _ (by simp) h3 h4).mono ?_;rintro e w' ⟨rfl,rfl⟩;go_wp2;go_ret2;exact ⟨rfl,bel2 _ _ _⟩
theorem part_no (a b:Int) (w:World) (h:(a<0∨1000000000000<a)∨(b<0∨10000<b)) :
  Calls Tryz.prog 165 #[zI a,zI b] w fun e w'=>e = .returned (.tuple #[zI 0,zI 2])∧Below w.heap.size w w':=by
 by_cases h0:a<0∨1000000000000<a
 ·clear h;go_enter Tryz.func165,Tryz.ntmps165;go_wp2_with fail;refine (within_one_no _ _ _ _ _ rfl h0).mono ?_;rintro e w' ⟨rfl,rfl⟩;go_wp2;go_ret2;exact ⟨rfl,bel1 _ _⟩
 ·have h5:b<0∨10000<b:=by omega
  have h1:0≤a:=by omega
  have h2:a≤1000000000000:=by omega
  clear h h0;go_enter Tryz.func165,Tryz.ntmps165;go_wp2_with fail;refine (within_one_yes _ _ _ _ _ rfl h1 h2).mono ?_;rintro e w' ⟨rfl,rfl⟩;go_wp2_with fail;refine (within_one_no _ _ _ _ _ (by simp) h5).mono ?_;rintro e w' ⟨rfl,rfl⟩;go_wp2;go_ret2;exact ⟨rfl,bel2 _ _ _⟩
end cents
namespace tar
open Go.RowKit
abbrev Ln:={ t:Tr // LineOk t }
def encL (t:Ln):Array Value:=#[.agg #[zI t.1.a,zI t.1.b,zI t.1.c]]
def lns (l:List Ln):List Tr:=l.map (fun t=>t.1)
theorem lns_app (l m:List Ln):lns (l++m)=lns l++lns m:=by unfold lns;rw [List.map_append]
theorem lns_len (l:List Ln):(lns l).length=l.length:=by unfold lns;rw [List.length_map]
theorem lns_ok (l:List Ln):∀ t∈lns l,LineOk t:=fun t ht=>by
 unfold lns at ht;obtain ⟨s,_,rfl⟩:=List.mem_map.1 ht;exact s.2
def Kq (n lo hi:Nat) (W W':World):Prop:=Below n W W'∧∀ j,lo≤j→j<hi→W'.heap[j]?=W.heap[j]?
theorem Kq.trans {n lo hi:Nat} {A B C:World} (h:Kq n lo hi A B) (k:Kq n lo hi B C):Kq n lo hi A C:=⟨h.1.trans k.1,fun j a b=>(k.2 j a b).trans (h.2 j a b)⟩
theorem nxt_yes {l:List Du} (h:Right l) (x y:Int) (hx:0≤x) (hxy:x≤y) (k:Nat) (hk:k<l.length) (hp:0<min (l.getD k du0).a y - (x+manyK l x y k)):min (l.getD k du0).a y - (x+manyK l x y k)=ov (low l k) (l.getD k du0).a x y:=by
 have h1:=many_eq h x y hx hxy k (by omega);have h2:=h.rise k hk;have h3:=h.low_pos k (by omega);rw [h1] at hp ⊢;unfold ov;omega
theorem nxt_no {l:List Du} (h:Right l) (x y:Int) (hx:0≤x) (hxy:x≤y) (k:Nat) (hk:k<l.length) (hp:¬ 0<min (l.getD k du0).a y - (x+manyK l x y k)):ov (low l k) (l.getD k du0).a x y=0:=by
 have h1:=many_eq h x y hx hxy k (by omega);have h2:=h.rise k hk;have h3:=h.low_pos k (by omega);rw [h1] at hp;unfold ov;omega
theorem many_next (l:List Du) (x y:Int) (k:Nat):manyK l x y (k+1)=manyK l x y k+ov (low l k) (l.getD k du0).a x y:=rfl
theorem many_bd {l:List Du} (h:Right l) (x y:Int) (hx:0≤x) (hxy:x≤y) (k:Nat) (hk:k≤l.length):0≤manyK l x y k∧manyK l x y k≤y - x:=by
 rw [many_eq h x y hx hxy k hk];omega
theorem line_ok {l:List Du} (h:Right l) (x y:Int) (k:Nat) (hk:k<l.length) (hp:0<ov (low l k) (l.getD k du0).a x y):LineOk ⟨ov (low l k) (l.getD k du0).a x y,(l.getD k du0).b,ov (low l k) (l.getD k du0).a x y*(l.getD k du0).b⟩:=by
 have h1:=h.price k hk;have h2:=h.upto k hk;have h3:=h.low_pos k (by omega);exact ⟨by show 1≤ov _ _ _ _;omega,ov_le _ _ _ _ h3 h2.2,h1.1,h1.2,rfl⟩
theorem bill_prefix (l:List Du) (x y:Int) (k m:Nat) (hkm:k≤m):billK l x y k <+: billK l x y m:=by
 induction m with
 | zero=>
  have:k=0:=by omega
  subst this;exact List.prefix_refl _
 | succ m ih=>
  by_cases e:k=m+1
  ·subst e;exact List.prefix_refl _
  ·exact (ih (by omega)).trans (List.prefix_append (billK l x y m) (if 0<ov (low l m) (l.getD m du0).a x y then [⟨ov (low l m) (l.getD m du0).a x y,(l.getD m du0).b,ov (low l m) (l.getD m du0).a x y*(l.getD m du0).b⟩] else []))
open Go.Shelf
attribute [local go_sem] Oper.semAt_some
theorem boxed_same {W W':World} {B:Nat} {t:TypeId} {v:Value} (h:Boxed W B t v) (e:W'.heap[B]?=W.heap[B]?):Boxed W' B t v:=e.trans h
theorem lines1_in (F:Fence) (n:Nat) (hF:F.fn 203) (hro:F.round=none) (hn:1≤n) (l Bf Bt Bu n₀ lo hi b off len cap B0:Nat) (ls:List Du) (x u:Int) (J Jx:List Ln→World→Prop)
  (hR:Right ls) (hlen:ls.length=len) (hx:0≤x∧x≤10000000) (hu:0≤u∧x+u≤10000000) (hJ:AbidesFrom B0 J)
  (hY:∀ pre t W,J pre W→pre.length<len→YieldAt F (n - 1) Tryz.prog l (encL t) W fun e W'=>
   (e = .returned (.bool true)∧J (pre++[t]) W'∧Kq n₀ lo hi W W')∨(e = .returned (.bool false)∧Jx (pre++[t]) W'))
  (W:World) (hf:Boxed W Bf 3 (zI x)) (ht:Boxed W Bt 22 (.slice (some ⟨b,off,none⟩) len cap)) (hun:Boxed W Bu 3 (zI u)) (h1:lo≤Bf∧Bf<hi) (h2:lo≤Bu∧Bu<hi) (hb:b<n₀) (hnW:n₀≤W.heap.size)
  (hc:∀ i,i<len→W.cell? ⟨b,off+i*2,none⟩=some (zI (ls.getD i du0).a)∧W.cell? ⟨b,off+i*2+1,none⟩=some (zI (ls.getD i du0).b)) (h0:J [] W) :
  CallsIn F n Tryz.prog 203 #[.func (.yield l) #[] #[],.pointer (some ⟨Bf,0,none⟩),.pointer (some ⟨Bt,0,none⟩),.pointer (some ⟨Bu,0,none⟩)] W fun e W'=>(∃ v,e = .returned v) ∧
   ((∃ ys,lns ys=billK ls x (x+u) len∧J ys W')∨(∃ pre,lns pre <+: billK ls x (x+u) len∧Jx pre W')):=by
 have HR:Hid (Right ls):=hR
 have HY:Hid (∀ pre t W,J pre W→pre.length<len→YieldAt F (n - 1) Tryz.prog l (encL t) W fun e W'=>
   (e = .returned (.bool true)∧J (pre++[t]) W'∧Kq n₀ lo hi W W')∨(e = .returned (.bool false)∧Jx (pre++[t]) W')):=hY
 have HJ:Hid (AbidesFrom B0 J):=hJ;have HC:Hid (∀ i,i<len→W.cell? ⟨b,off+i*2,none⟩=some (zI (ls.getD i du0).a)∧W.cell? ⟨b,off+i*2+1,none⟩=some (zI (ls.getD i du0).b)):=hc;have HLEN:Hid (ls.length=len):=hlen;have hl8:len≤8:=by have:=hR.1.2;omega
 have ct:=ht.cell;have cf:=hf.cell;obtain ⟨hx0,hx1⟩:=hx;obtain ⟨hu0,hu1⟩:=hu;have HX:Hid (0≤x∧x≤x+u∧x+u≤10000000):=⟨hx0,by omega,hu1⟩
 clear hR hY hJ hc hlen;refine callsIn_of_wp Tryz.func203 rfl hF ?_ hro;simp only [Tryz.ntmps203,List.size_toArray,List.length_cons,List.length_nil,Nat.reduceAdd,Nat.reduceSub,Array.replicate_succ,Array.replicate_zero,List.push_toArray,List.append_toArray,List.nil_append,List.cons_append]
 gi_wp2
 gi_loopw [5,12] (fun r i wr=>∃ (k:Nat) (pre:List Ln),k≤len∧i=zI (k:Int)∧r=zI (x+manyK ls x (x+u) k)∧lns pre=billK ls x (x+u) k∧J pre wr∧Boxed wr Bf 3 (zI x)∧Boxed wr Bu 3 (zI u)∧Below n₀ W wr) (fun _ i _=>len - (intOf i).toNat)
 case atStart=>exact ⟨0,[],Nat.zero_le _,rfl,by show _=Value.int .i64 (x+0);rw [Int.add_zero],rfl,h0,hf,hun,Below.refl _ _⟩
 case round=>
  obtain ⟨k,pre,hk,rfl,rfl,hpre,hj,hbf,hbu,hbl⟩:=hrel;have HPRE:Hid (lns pre=billK ls x (x+u) k):=hpre;have HJP:Hid (J pre wr):=hj;have HBF:Hid (Boxed wr Bf 3 (zI x)):=hbf;have HBU:Hid (Boxed wr Bu 3 (zI u)):=hbu;have HBL:Hid (Below n₀ W wr):=hbl;clear hpre hj hf hun ht ct cf;by_cases hlt:k<len
  ·have hdl:decide ((k:Int)<(len:Int))=true:=by simp;omega
   have c0:wr.cell? ⟨b,off+k*2,none⟩=some (zI (ls.getD k du0).a):=(hbl.cell (p:=⟨b,off+k*2,none⟩) hb).trans (HC.o k hlt).1;have c1:wr.cell? ⟨b,off+k*2+1,none⟩=some (zI (ls.getD k du0).b):=(hbl.cell (p:=⟨b,off+k*2+1,none⟩) hb).trans (HC.o k hlt).2;have hkl:k<ls.length:=by rw [HLEN.o];exact hlt
   have hpr:=HR.o.price k hkl;have hup:=HR.o.upto k hkl;have hmb:=many_bd HR.o x (x+u) hx0 (by omega) k (by omega);have hmin:=run_min (ls.getD k du0).a (x+u) _ rfl
   have hpl:pre.length<len:=by
    have e1:=lns_len pre;have e2:=bill_len ls x (x+u) k;rw [HPRE.o] at e1;omega
   have HBA:Hid (∀ o,Below n₀ W (wr.alloc o)):=fun o=>hbl.alloc (Nat.le_trans hnW hbl.size) o;have cf:∀ o,(wr.alloc o).cell? ⟨Bf,0,none⟩=some (zI x):=fun o=>(hbf.alloc o).cell;have cu:∀ o,(wr.alloc o).cell? ⟨Bu,0,none⟩=some (zI u):=fun o=>(hbu.alloc o).cell;have HFA:Hid (∀ o,Boxed (wr.alloc o) Bf 3 (zI x)):=fun o=>hbf.alloc o;have HUA:Hid (∀ o,Boxed (wr.alloc o) Bu 3 (zI u)):=fun o=>hbu.alloc o;have HJA:Hid (∀ o,J pre (wr.alloc o)):=fun o=>HJ.o pre wr _ none HJP.o (World.grownBy_alloc wr o none) (fun r e=>by cases e);clear hbf hbu hbl;by_cases hp:0<min (ls.getD k du0).a (x+u) - (x+manyK ls x (x+u) k)
   ·have ho:=nxt_yes HR.o x (x+u) hx0 (by omega) k hkl hp;have hp2:=hp;rw [ho] at hp2;have hok:=line_ok HR.o x (x+u) k hkl hp2;have HN:Hid (billK ls x (x+u) (k+1)=billK ls x (x+u) k++[⟨ov (low ls k) (ls.getD k du0).a x (x+u),(ls.getD k du0).b,ov (low ls k) (ls.getD k du0).a x (x+u)*(ls.getD k du0).b⟩]):=billK_yes ls x (x+u) k hp2;have HM:Hid (manyK ls x (x+u) (k+1)=manyK ls x (x+u) k+ov (low ls k) (ls.getD k du0).a x (x+u)):=many_next ls x (x+u) k;have hm2:=many_bd HR.o x (x+u) hx0 (by omega) (k+1) (by omega);rw [HM.o] at hm2;have hle:=ov_le (low ls k) (ls.getD k du0).a x (x+u) (HR.o.low_pos k (by omega)) hup.2;have hpb:=prod_bd (Int.le_of_lt hp2) hle hpr.1 hpr.2;generalize ov (low ls k) (ls.getD k du0).a x (x+u)=o at *;generalize manyK ls x (x+u) k=mk at *;generalize (ls.getD k du0).a=up at *;generalize (ls.getD k du0).b=p at *;generalize min up (x+u)=m at *;have hm:m - (x+mk)=o:=ho;have hdo:decide (o≤0)=false:=by simp;omega
    have HQ:Hid (∀ C,YieldAt F (n - 1) Tryz.prog l (encL ⟨⟨o,p,o*p⟩,hok⟩) (wr.alloc C) fun e W'=>
     (e = .returned (.bool true)∧J (pre++[⟨⟨o,p,o*p⟩,hok⟩]) W'∧Kq n₀ lo hi (wr.alloc C) W')∨(e = .returned (.bool false)∧Jx (pre++[⟨⟨o,p,o*p⟩,hok⟩]) W')):=fun C=>HY.o pre ⟨⟨o,p,o*p⟩,hok⟩ _ (HJA.o C) hpl
    obtain ⟨fn,tmps,assign,body,hy,hRd⟩:=HQ.o (.cells #[zI up,zI p] 198)
    have HNX:Hid (lns (pre++[⟨⟨o,p,o*p⟩,hok⟩])=billK ls x (x+u) (k+1)):=by
     show _=_;rw [lns_app,HPRE.o,HN.o];rfl
    have hpb0:=hpb.1;have hpb1:=hpb.2;have hxm0:0≤x+mk:=by omega
    have hxm1:x+mk≤10000000:=by omega
    have hm0:0≤m:=by omega
    have hm1:m≤20000000:=by omega
    have hs1:x+mk+o≤10000000:=by omega
    have ho0:0≤o:=by omega
    simp only [encL] at hy;clear ho hp HQ hmb hm2 hpb hpr hup
    gi_wp2
    refine hRd.mono ?_;rintro e W3 (⟨rfl,hJ3,hk3⟩ | ⟨rfl,hJx3⟩)
    ·have HB3:Hid (Below n₀ W W3):=(HBA.o _).trans hk3.1;have HF3:Hid (Boxed W3 Bf 3 (zI x)):=boxed_same (HFA.o _) (hk3.2 Bf h1.1 h1.2);have HU3:Hid (Boxed W3 Bu 3 (zI u)):=boxed_same (HUA.o _) (hk3.2 Bu h2.1 h2.2);have HJ3:Hid (J (pre++[⟨⟨o,p,o*p⟩,hok⟩]) W3):=hJ3;clear hk3 hJ3
     gi_wp2
     go_roundw
     case rel=>exact ⟨k+1,pre++[⟨⟨o,p,o*p⟩,hok⟩],by omega,by go_num,by rw [HM.o,Int.add_assoc],HNX.o,HJ3.o,HF3.o,HU3.o,HB3.o⟩
     case measure=>simp [intOf];omega
    ·have HJX:Hid (Jx (pre++[⟨⟨o,p,o*p⟩,hok⟩]) W3):=hJx3;clear hJx3
     gi_wp2
     refine bodyPost_ret (results_none rfl _ _ _) rfl ?_;exact ⟨⟨_,rfl⟩,.inr ⟨pre++[⟨⟨o,p,o*p⟩,hok⟩],by rw [HNX.o];exact bill_prefix ls x (x+u) (k+1) len (by omega),HJX.o⟩⟩
   ·have ho:=nxt_no HR.o x (x+u) hx0 (by omega) k hkl hp;have hmz:0≤min (ls.getD k du0).a (x+u):=by omega
    have HN:Hid (billK ls x (x+u) (k+1)=billK ls x (x+u) k):=billK_no ls x (x+u) k (by omega);have HM:Hid (manyK ls x (x+u) (k+1)=manyK ls x (x+u) k):=by show _=_;rw [many_next,ho,Int.add_zero]
    generalize manyK ls x (x+u) k=mk at *;generalize (ls.getD k du0).a=up at *;generalize (ls.getD k du0).b=p at *;generalize min up (x+u)=m at *;have hxm0:0≤x+mk:=by omega
    have hxm1:x+mk≤10000000:=by omega
    have hdo:decide (m - (x+mk)≤0)=true:=by simp;omega
    have hm0:0≤m:=hmz;have hm1:m≤20000000:=by omega
    clear ho hp hmb hpr hup
    gi_wp2
    go_roundw
    case rel=>exact ⟨k+1,pre,by omega,by go_num,by rw [HM.o],by rw [HN.o];exact HPRE.o,HJA.o _,HFA.o _,HUA.o _,HBA.o _⟩
    case measure=>simp [intOf];omega
  ·obtain rfl:k=len:=by omega
   have hdl:decide ((k:Int)<(k:Int))=false:=by simp
   clear hbf hbu hbl
   gi_wp2
   go_end0;exact ⟨⟨_,rfl⟩,.inl ⟨pre,HPRE.o,HJP.o⟩⟩
end tar
namespace token
open Go.RowKit
theorem in_yes (n lo hi:Int) (w:World) (h1:lo≤n) (h2:n≤hi) :
  Calls Tryz.prog 101 #[zI n,zI lo,zI hi] w fun e w'=>e = .returned (.bool true)∧w'=w:=by
 go_enter Tryz.func101,Tryz.ntmps101;go_wp2;go_ret;exact ⟨rfl,rfl⟩
theorem in_no (n lo hi:Int) (w:World) (h:n<lo∨hi<n) :
  Calls Tryz.prog 101 #[zI n,zI lo,zI hi] w fun e w'=>e = .returned (.bool false)∧w'=w:=by
 by_cases h0:n<lo
 ·clear h;go_enter Tryz.func101,Tryz.ntmps101;go_wp2;go_ret;exact ⟨rfl,rfl⟩
 ·have h1:lo≤n:=by omega
  have h2:decide (n≤hi)=false:=by simp;omega
  clear h h0;go_enter Tryz.func101,Tryz.ntmps101;go_wp2;go_ret;exact ⟨rfl,rfl⟩
end token
end Go.Proofs.YtnpblpbohcegoaaGreatDoor
