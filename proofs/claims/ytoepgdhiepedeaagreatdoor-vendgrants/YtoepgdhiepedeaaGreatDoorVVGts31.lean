import Derived.Test.YtoepgdhiepedeaaGreatDoorVVGts21
import Derived.Test.YtoepgdhiepedeaaGreatDoorVVGts25
import Derived.Test.YtoepgdhiepedeaaGreatDoorVVGts29
set_option linter.unusedVariables false
set_option linter.unusedSimpArgs false
set_option maxHeartbeats 4000000
set_option maxRecDepth 100000
namespace Go.Proofs.YtoepgdhiepedeaaGreatDoor
namespace vnd
open disk (RepIs AppIs RepPost Lr Recs Sli sl0)
open book (Ev ev0 EMay evL evOf EncIs DecIs Cm cm0 So so0 BookIs BookPost Sees ECame RowE FirstAt NoneAt Tells DecPost)
open acc (Ac Tm Bi SellIs GrantIs RekeyIs OweIs)
open ora (Pr IssueIs)
open cell (Wr RowU)
open rcp (Rc rc0)
open token (Tok fmtL)
open Go.RowKit
theorem cell_one{w:World}{g o:Nat}{v u:Value}{T:TypeId}(hB:Blk w g #[v] T)(h:w.cell? ⟨g,o,none⟩=some u):o=0:=by
 rw[hB.cell o] at h
 match o,h with
 |0,_=>rfl
 |o+1,h=>simp at h
variable{p:Option Addr}{T T':TypeId}{v v':Value}{w W:World}{g:Nat}{n:Nat}
theorem rowC_one{xs:List book.Cu}(h:book.RowC w p n xs)(hB:Blk w g #[v] T)(hU:Upd w W g #[v'] T'):book.RowC W p n xs:=by
 refine⟨h.1,?_⟩;rcases h.2 with a|⟨b,f,rfl,q,c⟩
 ·exact .inl a
 ·rcases Nat.eq_zero_or_pos n with a|a
  ·exact .inl a
  ·have d:b≠g:=λe=>by
    subst e;have k:=c 0 0 a (by decide);have l:=c 0 1 a (by decide);have r:=cell_one hB (u:=zI (xs.getD 0 book.cu0).me) (by rw[k];rfl);have s:=cell_one hB (u:=zI (xs.getD 0 book.cu0).rv) (by rw[l];rfl);omega
   exact .inr ⟨b,f,rfl,by rw[hU.size];exact q,λi j m o=>by rw[hU.cell _ d rfl];exact c i j m o⟩
theorem rowS_one{l:List So}(h:book.RowS w p n l)(hB:Blk w g #[v] T)(hU:Upd w W g #[v'] T'):book.RowS W p n l:=by
 refine⟨h.1,?_⟩;rcases h.2 with a|⟨b,f,rfl,r,c⟩
 ·exact .inl a
 ·rcases Nat.eq_zero_or_pos n with a|a
  ·exact .inl a
  ·have d:b≠g:=λe=>by
    subst e;have k:=c 0 0 a (by decide);have m:=c 0 1 a (by decide);have s:=cell_one hB (u:=zI (l.getD 0 so0).id) (by rw[k];rfl);have t:=cell_one hB (u:=zI (l.getD 0 so0).cl) (by rw[m];rfl);omega
   exact .inr ⟨b,f,rfl,by rw[hU.size];exact r,λi j o q=>by rw[hU.cell _ d rfl];exact c i j o q⟩
theorem came_one{n cap:Nat}{l:List tar.Du}(h:tar.Came w p n cap l)(hB:Blk w g #[v] T)(hU:Upd w W g #[v'] T'):tar.Came W p n cap l:=
 acc.came_upd h hU λa x f e=>by
  obtain⟨b,j,i,m,d⟩:=h.row.at a;rw[i] at f;cases f;have c:=e;subst c;have k:=cell_one hB (d 0 a).1;have c:=cell_one hB (d 0 a).2;omega
theorem sees_one{xs:List book.Cu}{bk:List Cm}(h:Sees w p n xs bk)(hB:Blk w g #[v] T)(hU:Upd w W g #[v'] T'):Sees W p n xs bk:=
 ⟨rowC_one h.row hB hU,h.len,h.num,λi a=>came_one (h.ds i a) hB hU,λi a=>rowS_one (h.so i a) hB hU⟩
end vnd
namespace disk
open Go.RowKit cell
def AppPost(w:World)(c r:List Int)(e:Ending)(w':World):Prop:=
 ∃V ls f,e=.returned (.tuple #[V,zI f])∧Lw w' w.heap.size V ls∧AppIs c r ls f∧zB w w'
theorem put_next(p k:Nat)(r:List Int):putW p r k++[⟨(p:Int)+(k:Int)+1,r.getD k 0⟩]=putW p r (k+1):=by
 rw[putW,show ((p+k+1:Nat):Int)=(p:Int)+(k:Int)+1 by omega]
theorem app_yes{c:List Int}{p:Nat}{r:List Int}(h:p+r.length+1<c.length):putW p r r.length++[⟨(p:Int)+(r.length:Int)+1,0⟩]++[⟨(p:Int),(r.length:Int)⟩]=appW c p r:=by
 unfold appW zeroW;rw[if_pos h,List.append_assoc,show ((p+r.length+1:Nat):Int)=(p:Int)+(r.length:Int)+1 by omega]
theorem app_no{c:List Int}{p:Nat}{r:List Int}(h:¬ p+r.length+1<c.length):putW p r r.length++[⟨(p:Int),(r.length:Int)⟩]=appW c p r:=by
 unfold appW zeroW;rw[if_neg h,List.nil_append]
end disk
namespace vnd
open book (Ev ev0 EMay evL evOf EncIs DecIs Cm cm0 So so0 BookIs FirstAt NoneAt Tells)
open acc (Ac Tm Bi SellIs GrantIs RekeyIs OweIs)
open ora (Pr IssueIs)
open token (Tok fmtL)
theorem grant_tok{a:Ac}{t:Tm}{m:Int}{b:Ac}{l:Bi}(h:GrantIs a t m b l 0):(1≤l.id∧l.id≤1048575)∧1≤l.un∧l.un≤2097151:=by
 rcases h with⟨h,rfl,rfl⟩|⟨_,_,h,_⟩|⟨_,_,_,h,_⟩|⟨_,_,_,_,h,_⟩|⟨e,g,_,f,_,rfl,rfl⟩
 ·rcases h with⟨_,h⟩|⟨_,d,c⟩|⟨_,_,_,h⟩
  ·cases h
  ·exact absurd (c.ok.1 rfl) d
  ·exact absurd rfl h.ne
 ·cases h
 ·cases h
 ·cases h
 ·have d:=e.1.2.2.2.1.1;have c:=e.2.1.2.2.2.2;refine⟨⟨d,f⟩,?_,?_⟩
  ·show 1≤t.al;have:=c.1;omega
  ·exact c.2
theorem tokB_ok{kd rv:Int}{l:Bi}{tg:Int}(hk:kd≠4)(h:(1≤l.id∧l.id≤1048575)∧1≤l.un∧l.un≤2097151)(ht:0≤tg∧tg≤65535):(tokB kd rv l tg).ok∧(tokB kd rv l tg).v=.agg #[zI 0,zI l.id,zI l.un,zI tg]:=by
 have e:tokB kd rv l tg=⟨0,l.id.toNat,l.un.toNat,tg.toNat⟩:=by unfold tokB;rw[if_neg hk]
 rw[e];refine⟨⟨by show (0:Nat)≤3;omega,?_,?_,?_,?_,λ_=>?_,(λh=>by cases h),λh=>by rcases h with h|h<;>cases h⟩,?_⟩
 ·show 1≤l.id.toNat;omega
 ·show l.id.toNat≤1048575;omega
 ·show tg.toNat≤65535;omega
 ·show l.un.toNat≤2097151;omega
 ·show 1≤l.un.toNat;omega
 ·unfold token.Tok.v;show Value.agg #[zI ((0:Nat):Int),zI (l.id.toNat:Int),zI (l.un.toNat:Int),zI (tg.toNat:Int)]=_;rw[Int.toNat_of_nonneg (by omega),Int.toNat_of_nonneg (by omega),Int.toNat_of_nonneg ht.1];rfl
theorem issue_tag{l ls:List Pr}{m r b d x:Int}(h:IssueIs l m r b d ls x 0):0≤x∧x≤65535:=by
 rcases h with⟨_,_,_,h⟩|⟨_,_,_,_,h⟩|⟨e,a,⟨i,c,rfl⟩,_,_⟩|⟨_,_,_,_,_,_,h⟩|⟨_,a,_,_,_,rfl,_⟩
 ·cases h
 ·cases h
 ·exact(e.each i c.lt).1.2.2.2
 ·cases h
 ·exact a.2.2.2
open disk (RepIs AppIs RepPost Lr Recs Sli sl0)
open book (BookPost Sees ECame RowE DecPost)
open cell (Wr RowU)
open rcp (Rc rc0)
open Go.RowKit
def KFm:Prop:=∀(k:Tok)(W:World),k.ok→zC 28 #[k.v] W λe w'=>e=.returned (.tuple #[.string (token.fmtB (97*k.num)),zI 0])∧zB W w'
end vnd
namespace book
open Go.RowKit
theorem cellsE_app(l m:List Ev):cellsE (l++m)=cellsE l++cellsE m:=by
 induction l with
 |nil=>rfl
 |cons e l ih=>rw[List.cons_append,cellsE,cellsE,ih,List.append_assoc]
def Le(w:World)(base:Nat)(v:Value)(l:List Ev):Prop:=w.ownsRow base 44 13 v l.length (cellsE l)
theorem Le.zero(w:World)(base:Nat):Le w base (zS) []:=World.ownsRow_nil _ _ _ _
variable{l:List Ev}{base:Nat}{w:World}{v:Value}
theorem Le.alloc(h:Le w base v l)(o:Obj):Le (w.alloc o) base v l:=World.ownsRow.alloc h o
theorem Le.next{w w':World}(h:Le w base v l)(hb:zB w w'):Le w' base v l:=by
 refine⟨h.1,?_⟩;rcases h.2 with e|⟨g,a,b,f,d,c,rest⟩
 ·exact .inl e
 ·exact .inr ⟨g,a,b,f,d,Blk.next c hb,rest⟩
theorem Le.came(h:Le w base v l)(hl:l.length≤100000)(hw:∀x∈l,wf13 x):∃a cap,v=.slice a l.length cap∧ECame w a l.length cap l:=by
 rcases h.2 with⟨b,c⟩|⟨g,cap,d,b,_,k,f,_⟩
 ·exact⟨none,0,by rw[c];exact b,⟨⟨rfl,.inl c⟩,λ_=>rfl,by omega,by omega,hw⟩⟩
 ·subst b;refine⟨_,cap,rfl,⟨⟨rfl,.inr ⟨g,0,rfl,Blk.lt k,λi j m n=>?_⟩⟩,(λh=>by cases h),f,by omega,hw⟩⟩;have e:=World.ownsRow.cellAt h (i*13+j) (by omega);rw[Nat.zero_add,e];exact cellsE_at l i j m n
theorem wp_ev{ops:Array Oper}{rest:List Oper}{o:Oper}{a:Act}{Q:Exit→Act→World→Prop}(hgd:o.guard=none)(s x:Operand)
  (ho:o.op=.call { callee:=.builtin .append,args:=#[s,x],argTypes:=#[103,103] })
  (base G:Nat) (v:Value) (l:List Ev) (r:Ev) (hs:a.eval s=v) (hx:a.eval x=.slice (some ⟨G,0,none⟩) 1 1) (hv:Le w base v l) (hu:Blk w G r.cl.toArray 44) (hn:l.length≤1000000) (hbase:base≤w.heap.size)
  (h:∀v' w',Le w' base v' (l++[r])→w.grownBy w' v.ownBlock→wpList Tryz.prog ops Q rest (a.put o.dst v') w'):wpList Tryz.prog ops Q (o::rest) a w:=by
 obtain⟨k,i,b,c,d⟩:=info_parts evI;refine wpList_append_own w hgd s x 103 ho base 44 k (.agg ev0.cl.toArray) 13 104 Tryz.underlying103 i b c d rfl (by decide) v l.length (cellsE l) hs hv ⟨G,0,none⟩ 1 1 (cellsE [r]) hx (by rw[cellsE_len];rfl) ?_ (oneE [r]) (by unfold maxLen;omega) (by omega) hbase ?_
 ·intro j u e;rw[Addr.add_lit,Nat.zero_add,hu.cell j];rw[cellsE,cellsE,List.append_nil] at e;simpa using e
 intro v' w' f g _;refine h v' w' ?_ g;unfold Le;rw[List.length_append,cellsE_app];exact f
end book
namespace token
open words
open Go.RowKit
theorem put_wn(a b c v lo n V : Nat)(w : World)(h : WN a b c V)(hv : v<2^n)(n0 : 1 ≤ n)(n1 : n ≤ 64)(hl : lo + n ≤ 96)(h0 : V/2^lo%2^n = 0):
  Calls Tryz.prog 160 #[.agg #[.int .u32 (a : Int), .int .u32 (b : Int), .int .u32 (c : Int)], .int .i64 (lo : Int), .int .i64 (n : Int), .int .u64 (v : Int)] w λe w' =>
   ∃a' b' c' : Nat, e=.returned (.tuple #[.agg #[.int .u32 (a' : Int), .int .u32 (b' : Int), .int .u32 (c' : Int)], .int .i64 0]) ∧ WN a' b' c' (V + v * 2^lo) ∧ zB w w' := by
 refine(put_any a b c v lo n w h.a1 h.b1 h.c1 hv n0 n1 hl).mono ?_
 rintro e w' ⟨f, d⟩
 refine⟨_, _, _, f, ⟨put_lt _ _ _ _ h.a1, put_lt _ _ _ _ h.b1, put_lt _ _ _ _ h.c1, ?_⟩, d⟩
 rw[put_num h.a1 h.b1 h.c1 hv n1 hl (by rw[h.val]; exact h0), h.val]
structure Pk (w wr : World) (k : Tok) (j a b c : Nat) : Prop where
 below : zB w wr
 fld : Blk wr (w.heap.size + 1 + 1) #[.int .i64 (k.c : Int), .int .i64 (k.i : Int), .int .i64 (k.a : Int), .int .i64 (k.t : Int)] 244
 res : Blk wr (w.heap.size + 1) #[.int .u32 0, .int .u32 0, .int .u32 0] 135
 num : Blk wr (w.heap.size + 1 + 1 + 1) #[.int .u32 (a : Int), .int .u32 (b : Int), .int .u32 (c : Int)] 135
 wn : WN a b c (pP k j)
theorem Pk.mk3{w w2 : World}{k : Tok}{j a b c a' b' c' : Nat}(hB : zB w w2)(hF : Blk w2 (w.heap.size + 1 + 1) #[.int .i64 (k.c : Int), .int .i64 (k.i : Int), .int .i64 (k.a : Int), .int .i64 (k.t : Int)] 244)(hR : Blk w2 (w.heap.size + 1) #[.int .u32 0, .int .u32 0, .int .u32 0] 135)
  (hN : Blk w2 (w.heap.size + 1 + 1 + 1) #[.int .u32 (a : Int), .int .u32 (b : Int), .int .u32 (c : Int)] 135) (hwn : WN a' b' c' (pP k j)):
  Pk w (((w2.setCell ⟨w.heap.size + 1 + 1 + 1, 0, none⟩ (.int .u32 (a' : Int))).setCell ⟨w.heap.size + 1 + 1 + 1, 1, none⟩ (.int .u32 (b' : Int))).setCell ⟨w.heap.size + 1 + 1 + 1, 2, none⟩ (.int .u32 (c' : Int))) k j a' b' c' :=
 ⟨bel_set (bel_set (bel_set hB _ _ _ (by omega)) _ _ _ (by omega)) _ _ _ (by omega), ((hF.other _ _ (by omega)).other _ _ (by omega)).other _ _ (by omega), ((hR.other _ _ (by omega)).other _ _ (by omega)).other _ _ (by omega), ((hN.set 0 _).set 1 _).set 2 _, hwn⟩
def PackPost(w : World)(k : Tok)(e : Ending)(w' : World): Prop := ∃a b c : Nat, e=.returned (.agg #[.int .u32 (a : Int), .int .u32 (b : Int), .int .u32 (c : Int)]) ∧ WN a b c k.num ∧ zB w w'
set_option maxHeartbeats 1000000 in
theorem pack_any(k : Tok)(w : World)(hk : k.ok)(ht : TTab w):
  Calls Tryz.prog 113 #[k.v] w λe w' => PackPost w k e w' := by
 have hb0 : zB w ((((w.alloc (.cells #[.int .i64 (k.c : Int), .int .i64 (k.i : Int), .int .i64 (k.a : Int), .int .i64 (k.t : Int)] 73)).alloc (.cells #[.int .u32 0, .int .u32 0, .int .u32 0] 135)).alloc (.cells #[.int .i64 (k.c : Int), .int .i64 (k.i : Int), .int .i64 (k.a : Int), .int .i64 (k.t : Int)] 244)).alloc (.cells #[.int .u32 0, .int .u32 0, .int .u32 0] 135)) :=
  (((zb.alloc zc _).alloc (by simp) _).alloc (by simp; omega) _).alloc (by simp; omega) _
 obtain⟨q0, q1, q2, q3, q4, q5, q6, q7⟩ := (ht.places.below hb0).cell
 have HP : Hid (Pk w ((((w.alloc (.cells #[.int .i64 (k.c : Int), .int .i64 (k.i : Int), .int .i64 (k.a : Int), .int .i64 (k.t : Int)] 73)).alloc (.cells #[.int .u32 0, .int .u32 0, .int .u32 0] 135)).alloc (.cells #[.int .i64 (k.c : Int), .int .i64 (k.i : Int), .int .i64 (k.a : Int), .int .i64 (k.t : Int)] 244)).alloc (.cells #[.int .u32 0, .int .u32 0, .int .u32 0] 135)) k 0 0 0 0) :=
  ⟨hb0, (Blk.new2 _ _ _ _ _).alloc _, ((Blk.new1 _ _ _ _).alloc _).alloc _, Blk.new3 _ _ _ _ _ _, wn_zero⟩
 have HK : Hid k.ok := hk
 clear hk ht hb0
 unfold Tok.v
 go_enter Tryz.func113, Tryz.ntmps113
 go_wp2_with fail
 generalize ((((w.alloc (.cells #[.int .i64 (k.c : Int), .int .i64 (k.i : Int), .int .i64 (k.a : Int), .int .i64 (k.t : Int)] 73)).alloc (.cells #[.int .u32 0, .int .u32 0, .int .u32 0] 135)).alloc (.cells #[.int .i64 (k.c : Int), .int .i64 (k.i : Int), .int .i64 (k.a : Int), .int .i64 (k.t : Int)] 244)).alloc (.cells #[.int .u32 0, .int .u32 0, .int .u32 0] 135)) = W0 at *
 clear q0 q1 q2 q3 q4 q5 q6 q7
 go_loopw [17] (λv wr => ∃j a b c : Nat, j ≤ 4 ∧ v=.int .i64 (j : Int) ∧ Pk w wr k j a b c) (λv _ => 4-(intOf v).toNat)
 case atStart => exact⟨0, 0, 0, 0, by omega, rfl, HP.out⟩
 case round =>
  obtain⟨j, a, b, c, hj, rfl, hp⟩ := hrel
  by_cases hlt : j<4
  ·have hst := step_P HK.out j hlt
   have HC : Hid (∀ W, zC 160 #[.agg #[.int .u32 (a : Int), .int .u32 (b : Int), .int .u32 (c : Int)], .int .i64 (loP j : Int), .int .i64 (nP j : Int), .int .u64 (IntKind.u64.wrap (vP k j : Int))] W fun e w' =>
     ∃ a' b' c' : Nat, e = .returned (.tuple #[.agg #[.int .u32 (a' : Int), .int .u32 (b' : Int), .int .u32 (c' : Int)], .int .i64 0]) ∧ WN a' b' c' (pP k (j + 1)) ∧ zB W w') := fun W => by
    rw[hst.2.2.2.2.2.1, wrap_u _ hst.2.2.2.2.2.2]
    exact put_wn a b c (vP k j) (loP j) (nP j) (pP k j) W hp.wn hst.1 hst.2.1 hst.2.2.1 hst.2.2.2.1 hst.2.2.2.2.1
   have hix := idxP j hlt
   have hv := hst.2.2.2.2.2.2
   have hf : ∀W : World, Blk W (w.heap.size + 1 + 1) #[.int .i64 (k.c : Int), .int .i64 (k.i : Int), .int .i64 (k.a : Int), .int .i64 (k.t : Int)] 244 → W.cell? ⟨w.heap.size + 1 + 1, j, none⟩ = some (.int .i64 (vP k j : Int)) := λW hB => by
    rw[hB.cell]
    rcases (by omega : j = 0 ∨ j = 1 ∨ j = 2 ∨ j = 3) with rfl|rfl|rfl|rfl<;>rfl
   generalize vP k j = v at *
   generalize loP j = lo at *
   generalize nP j = n at *
   clear hst
   have hjj : (j : Int)<4 := by omega
   have hPl := Blk.new wr #[.int .i64 (lo : Int), .int .i64 (n : Int)] 246
   have hNu := hp.num.alloc (.cells #[.int .i64 (lo : Int), .int .i64 (n : Int)] 246)
   have hFi := hp.fld.alloc (.cells #[.int .i64 (lo : Int), .int .i64 (n : Int)] 246)
   have hRe := hp.res.alloc (.cells #[.int .i64 (lo : Int), .int .i64 (n : Int)] 246)
   have hBe := hp.below.alloc hp.below.size (.cells #[.int .i64 (lo : Int), .int .i64 (n : Int)] 246)
   have hne : wr.heap.size≠w.heap.size + 1 + 1 + 1 := by have := hp.num.lt; omega
   clear hp
   go_wp2_with fail
   generalize wr.alloc (.cells #[.int .i64 (lo : Int), .int .i64 (n : Int)] 246) = W1 at *
   have k0 : W1.drew.cell? ⟨w.heap.size + 1 + 1 + 1, 0, none⟩ = some (.int .u32 (a : Int)) := hNu.cell 0
   have k1 : W1.drew.cell? ⟨w.heap.size + 1 + 1 + 1, 1, none⟩ = some (.int .u32 (b : Int)) := hNu.cell 1
   have k2 : W1.drew.cell? ⟨w.heap.size + 1 + 1 + 1, 2, none⟩ = some (.int .u32 (c : Int)) := hNu.cell 2
   have KW : Hid (W1.drew.cell? ⟨wr.heap.size, 0, none⟩ = some (.int .i64 (lo : Int)) ∧ W1.drew.cell? ⟨wr.heap.size, 1, none⟩ = some (.int .i64 (n : Int)) ∧ W1.drew.cell? ⟨w.heap.size + 1 + 1, j, none⟩ = some (.int .i64 (v : Int))) := ⟨hPl.cell 0, hPl.cell 1, hf _ hFi⟩
   refine wp_region_held_drew (S := (λv' => v'.cell? ⟨wr.heap.size, 0, none⟩ = some (.int .i64 (lo : Int)) ∧ v'.cell? ⟨wr.heap.size, 1, none⟩ = some (.int .i64 (n : Int)) ∧ v'.cell? ⟨w.heap.size + 1 + 1, j, none⟩ = some (.int .i64 (v : Int)))) (by kernel_rfl) KW.out (λhHeld => ?_)
   refine wpAnyH_take (i := 1) (v := ?v1) rfl (by kernel_rfl) (by kernel_rfl) (by kernel_rfl) (λ_ _ _ h => h) (Or.inl ⟨by rfl, ?y1⟩) KW.out ?r1
   case y1 => (intro wz hSw; (try dsimp only at hSw); go_simp; try (with_reducible rfl))
   simp only[Act.put, zqa, zqb, zqc]
   refine wpAnyH_take (i := 2) (v := ?v2) rfl (by kernel_rfl) (by kernel_rfl) (by kernel_rfl) (λ_ _ _ h => h) (Or.inl ⟨by rfl, ?y2⟩) KW.out ?r2
   case y2 => (intro wz hSw; (try dsimp only at hSw); go_simp; try (with_reducible rfl))
   simp only[Act.put, zqa, zqb, zqc]
   refine wpAnyH_take (i := 3) (v := ?v3) rfl (by kernel_rfl) (by kernel_rfl) (by kernel_rfl) (λ_ _ _ h => h) (Or.inl ⟨by rfl, ?y3⟩) KW.out ?r3
   case y3 => (intro wz hSw; (try dsimp only at hSw); go_simp; try (with_reducible rfl))
   simp only[Act.put, zqa, zqb, zqc]
   refine wpAnyH_take (i := 4) (v := ?v4) rfl (by kernel_rfl) (by kernel_rfl) (by kernel_rfl) (λ_ _ _ h => h) (Or.inl ⟨by rfl, ?y4⟩) KW.out ?r4
   case y4 => (intro wz hSw; (try dsimp only at hSw); go_simp; try (with_reducible rfl))
   simp only[Act.put, zqa, zqb, zqc]
   refine wpAnyH_take (i := 5) (v := ?v5) rfl (by kernel_rfl) (by kernel_rfl) (by kernel_rfl) (λ_ _ _ h => h) (Or.inl ⟨by rfl, ?y5⟩) KW.out ?r5
   case y5 => (intro wz hSw; (try dsimp only at hSw); go_simp; try (with_reducible rfl))
   simp only[Act.put, zqa, zqb, zqc]
   refine wpAnyH_take (i := 6) (v := ?v6) rfl (by kernel_rfl) (by kernel_rfl) (by kernel_rfl) (λ_ _ _ h => h) (Or.inl ⟨by rfl, ?y6⟩) KW.out ?r6
   case y6 => (intro wz hSw; (try dsimp only at hSw); go_simp; try (with_reducible rfl))
   simp only[Act.put, zqa, zqb, zqc]
   refine wpAnyH_take (i := 7) (v := ?v7) rfl (by kernel_rfl) (by kernel_rfl) (by kernel_rfl) (λ_ _ _ h => h) (Or.inl ⟨by rfl, ?y7⟩) KW.out ?r7
   case y7 => (intro wz hSw; (try dsimp only at hSw); go_simp; try (with_reducible rfl))
   simp only[Act.put, zqa, zqb, zqc]
   refine wpAnyH_take (i := 8) (v := ?v8) rfl (by kernel_rfl) (by kernel_rfl) (by kernel_rfl) (λ_ _ _ h => h) (Or.inl ⟨by rfl, ?y8⟩) KW.out ?r8
   case y8 => (intro wz hSw; (try dsimp only at hSw); go_simp; try (with_reducible rfl))
   simp only[Act.put, zqa, zqb, zqc]
   refine wpAnyH_ready (rs := [0]) (by kernel_rfl) (by simp) ?_
   refine AllReadyH.cons rfl (λK hK => ?_) AllReadyH.nil
   go_simp
   refine hK.out _ _ KW.out (λ_ => ?_)
   refine wpAnyH_ready (rs := [9]) (by kernel_rfl) (by simp) ?_
   refine AllReadyH.cons rfl (λK hK => ?_) AllReadyH.nil
   go_simp
   refine(HC.out _).mono ?_
   rintro e w2 ⟨a', b', c', rfl, hwn, hb2⟩
   have hN2 : Blk w2 (w.heap.size + 1 + 1 + 1) #[.int .u32 (a : Int), .int .u32 (b : Int), .int .u32 (c : Int)] 135 := Blk.next (w := W1.drew) hNu hb2
   have hP2 : Blk w2 wr.heap.size #[.int .i64 (lo : Int), .int .i64 (n : Int)] 246 := Blk.next (w := W1.drew) hPl hb2
   have hF2 : Blk w2 (w.heap.size + 1 + 1) #[.int .i64 (k.c : Int), .int .i64 (k.i : Int), .int .i64 (k.a : Int), .int .i64 (k.t : Int)] 244 := Blk.next (w := W1.drew) hFi hb2
   have hR2 : Blk w2 (w.heap.size + 1) #[.int .u32 0, .int .u32 0, .int .u32 0] 135 := Blk.next (w := W1.drew) hRe hb2
   have hB2 : zB w w2 := bel_step (w := W1.drew) hBe.drew hb2
   have r0 := hN2.cell 0
   have r1 := hN2.cell 1
   have r2 := hN2.cell 2
   have f0 := hN2.free 0
   have f1 := hN2.free 1
   have f2 := hN2.free 2
   have K2 : Hid (w2.cell? ⟨wr.heap.size, 0, none⟩ = some (.int .i64 (lo : Int)) ∧ w2.cell? ⟨wr.heap.size, 1, none⟩ = some (.int .i64 (n : Int)) ∧ w2.cell? ⟨w.heap.size + 1 + 1, j, none⟩ = some (.int .i64 (v : Int))) := ⟨hP2.cell 0, hP2.cell 1, hf _ hF2⟩
   have HQ : Hid (Pk w (((w2.setCell ⟨w.heap.size + 1 + 1 + 1, 0, none⟩ (.int .u32 (a' : Int))).setCell ⟨w.heap.size + 1 + 1 + 1, 1, none⟩ (.int .u32 (b' : Int))).setCell ⟨w.heap.size + 1 + 1 + 1, 2, none⟩ (.int .u32 (c' : Int))) k (j + 1) a' b' c') := Pk.mk3 hB2 hF2 hR2 hN2 hwn
   have K3 : Hid ((((w2.setCell ⟨w.heap.size + 1 + 1 + 1, 0, none⟩ (.int .u32 (a' : Int))).setCell ⟨w.heap.size + 1 + 1 + 1, 1, none⟩ (.int .u32 (b' : Int))).setCell ⟨w.heap.size + 1 + 1 + 1, 2, none⟩ (.int .u32 (c' : Int))).cell? ⟨wr.heap.size, 0, none⟩ = some (.int .i64 (lo : Int)) ∧ (((w2.setCell ⟨w.heap.size + 1 + 1 + 1, 0, none⟩ (.int .u32 (a' : Int))).setCell ⟨w.heap.size + 1 + 1 + 1, 1, none⟩ (.int .u32 (b' : Int))).setCell ⟨w.heap.size + 1 + 1 + 1, 2, none⟩ (.int .u32 (c' : Int))).cell? ⟨wr.heap.size, 1, none⟩ = some (.int .i64 (n : Int)) ∧ (((w2.setCell ⟨w.heap.size + 1 + 1 + 1, 0, none⟩ (.int .u32 (a' : Int))).setCell ⟨w.heap.size + 1 + 1 + 1, 1, none⟩ (.int .u32 (b' : Int))).setCell ⟨w.heap.size + 1 + 1 + 1, 2, none⟩ (.int .u32 (c' : Int))).cell? ⟨w.heap.size + 1 + 1, j, none⟩ = some (.int .i64 (v : Int))) :=
    ⟨(((hP2.other _ _ (Ne.symm hne)).other _ _ (Ne.symm hne)).other _ _ (Ne.symm hne)).cell 0, (((hP2.other _ _ (Ne.symm hne)).other _ _ (Ne.symm hne)).other _ _ (Ne.symm hne)).cell 1, hf _ HQ.out.fld⟩
   clear hN2 hP2 hF2 hR2 hB2 hb2 hwn
   go_simp
   refine hK.out _ _ K2.out (λ_ => ?_)
   refine wpAnyH_take (i := 10) (v := ?v10) rfl (by kernel_rfl) (by kernel_rfl) (by kernel_rfl) (λ_ _ _ h => h) (Or.inl ⟨by rfl, ?y10⟩) K2.out ?r10
   case y10 => (intro wz hSw; (try dsimp only at hSw); go_simp; try (with_reducible rfl))
   simp only[Act.put, zqa, zqb, zqc]
   refine wpAnyH_take (i := 11) (v := ?v11) rfl (by kernel_rfl) (by kernel_rfl) (by kernel_rfl) (λ_ _ _ h => h) (Or.inl ⟨by rfl, ?y11⟩) K2.out ?r11
   case y11 => (intro wz hSw; (try dsimp only at hSw); go_simp; try (with_reducible rfl))
   simp only[Act.put, zqa, zqb, zqc]
   refine wpAnyH_take (i := 12) (v := ?v12) rfl (by kernel_rfl) (by kernel_rfl) (by kernel_rfl) (λ_ _ _ h => h) (Or.inl ⟨by rfl, ?y12⟩) K2.out ?r12
   case y12 => (intro wz hSw; (try dsimp only at hSw); go_simp; try (with_reducible rfl))
   simp only[Act.put, zqa, zqb, zqc]
   refine wpAnyH_ready (rs := [13]) (by kernel_rfl) (by simp) ?_
   refine AllReadyH.cons rfl (λK hK => ?_) AllReadyH.nil
   go_simp
   refine hK.out _ _ K3.out (λ_ => ?_)
   refine wpAnyH_done (by kernel_rfl) ?_ _
   all_goals
    go_wp2_with fail
    go_roundw
    case rel => exact⟨j + 1, a', b', c', by omega, by go_num, HQ.out⟩
    case measure => simp[intOf]; omega
  ·obtain rfl : j = 4 := by omega
   have r0 := hp.num.cell 0
   have r1 := hp.num.cell 1
   have r2 := hp.num.cell 2
   have s0 := hp.res.cell 0
   have s1 := hp.res.cell 1
   have s2 := hp.res.cell 2
   have f0 := hp.res.free 0
   have f1 := hp.res.free 1
   have f2 := hp.res.free 2
   have HB : Hid (zB w (((wr.setCell ⟨w.heap.size + 1, 0, none⟩ (.int .u32 (a : Int))).setCell ⟨w.heap.size + 1, 1, none⟩ (.int .u32 (b : Int))).setCell ⟨w.heap.size + 1, 2, none⟩ (.int .u32 (c : Int)))) := bel_set (bel_set (bel_set hp.below _ _ _ (by omega)) _ _ _ (by omega)) _ _ _ (by omega)
   have HW : Hid (WN a b c k.num) := hp.wn
   have RR : Blk (((wr.setCell ⟨w.heap.size + 1, 0, none⟩ (.int .u32 (a : Int))).setCell ⟨w.heap.size + 1, 1, none⟩ (.int .u32 (b : Int))).setCell ⟨w.heap.size + 1, 2, none⟩ (.int .u32 (c : Int))) (w.heap.size + 1) #[.int .u32 (a : Int), .int .u32 (b : Int), .int .u32 (c : Int)] 135 := ((hp.res.set 0 _).set 1 _).set 2 _
   have R0 : Hid (_ = _) := RR.cell 0
   have R1 : Hid (_ = _) := RR.cell 1
   have R2 : Hid (_ = _) := RR.cell 2
   clear hp RR
   go_wp2_with fail
   refine bodyPost_ret (v :=.agg #[.int .u32 (a : Int), .int .u32 (b : Int), .int .u32 (c : Int)]) (by simp[results, Tryz.results113, R0.out, R1.out, R2.out, go_sem]) rfl ⟨a, b, c, rfl, HW.out, HB.out⟩
end token
namespace disk
open Go.RowKit cell
def KAppend:Prop:=∀(W:World)(a:Option Addr)(n cap:Nat)(c:List Int)(b:Option Addr)(m cap2:Nat)(r:List Int),RowU W a n c→(a=none→cap=0)→n≤cap→n*4≤140737488351232→(∀x∈c,0≤x∧x<4294967296)→RowU W b m r→(b=none→cap2=0)→m≤cap2→m*4≤140737488351232→(∀x∈r,0≤x∧x<4294967296)→zC 77 #[.slice a n cap,.slice b m cap2] W λe w'=>AppGot W c r e w'
end disk
namespace token
open words
open Go.RowKit
theorem blk_ex{w w':World}{G z:Nat}{cs:Array Value}{t:TypeId}(h:Blk w G cs t)(he:Ex w w' z)(hne:G≠z):Blk w' G cs t:=by
 have a:=h.lt;unfold Blk at *;rw[he.block G a hne];exact h
theorem number_abs(k:Tok)(B M1 M2 M3:Nat)(w:World)
  (HF:Hid (∀W,zC 25 #[.agg #[zI (k.c:Int),zI (k.i:Int),zI (k.a:Int),zI (k.t:Int)]] W λe w'=>e=.returned (.tuple #[zI (B:Int),zI 0])∧zB W w'))
  (HE:Hid (B*65536=M1∧M1+k.t=M2∧M2*97=M3)) (hB:B<9223372036854775808) (ht:k.t<9223372036854775808)
  (HL:Hid ((dig B).length≤100∧(dig 65536).length≤100∧(dig M1).length≤100∧(dig k.t).length≤100∧(dig M2).length≤100∧(dig 97).length≤100)):
  Calls Tryz.prog 59 #[k.v] w λe w'=>NewPost w M3 e w':=by
 have M:Hid (zB w (w.alloc (.cells #[zI (k.c:Int),zI (k.i:Int),zI (k.a:Int),zI (k.t:Int)] 73))):=zb.alloc zc _;have a0:Hid (Blk (w.alloc (.cells #[zI (k.c:Int),zI (k.i:Int),zI (k.a:Int),zI (k.t:Int)] 73)) w.heap.size #[zI (k.c:Int),zI (k.i:Int),zI (k.a:Int),zI (k.t:Int)] 73):=Blk.new _ _ _;unfold Tok.v;go_enter Tryz.func59,Tryz.ntmps59;go_wp2_with fail;refine(HF.o _).mono ?_;rintro e w1 ⟨rfl,d⟩;have N:=shB M d;have y:=shN a0 d;clear d;go_wp2_with fail;refine(newInt_any B _ hB).mono ?_;rintro e w2 ⟨z,rfl,hz,C,f⟩;have O:=shB N f;have a1:=shN y f;have A:Hid (w.heap.size<z):=Nat.lt_of_lt_of_le y.o.lt hz;have p:Hid (Bg w2 z B):=C;clear f C hz;go_wp2_with fail;refine(newInt_any 65536 _ (by decide)).mono ?_;rintro e w3 ⟨q3,rfl,a4,D,b⟩;have P:=shB O b;have a2:=shN a1 b;have N3:=p.o.below b;have L:=p.o.ob.lt;have I:q3≠z:=by omega
 have q:Hid (Bg w3 z B):=N3;have X:Hid (Bg w3 q3 65536):=D;clear b D a4 N3 L;go_wp2_with fail;refine(Mul_any z z q3 B 65536 _ q.o X.o q.o.ob I HL.o.1 HL.o.2.1).mono ?_;rintro e w4 ⟨rfl,j,n⟩;rw[HE.o.1] at j;have Q:Hid (zB w w4):=n.below P.o (by have:=A.o;omega);have a3:Hid (Blk w4 w.heap.size #[zI (k.c:Int),zI (k.i:Int),zI (k.a:Int),zI (k.t:Int)] 73):=blk_ex a2.o n (by have:=A.o;omega);have r:Hid (Bg w4 z M1):=j;have x3:=a3.o.cell 3;clear j n I;go_wp2_with fail;refine(newInt_any k.t _ ht).mono ?_;rintro e w5 ⟨q5,rfl,a5,E,g⟩;have R:=shB Q g;have N5:=r.o.below g;have L:=r.o.ob.lt;have J:q5≠z:=by omega
 have s:Hid (Bg w5 z M1):=N5;have Y:Hid (Bg w5 q5 k.t):=E;clear g E a5 N5 L x3;go_wp2_with fail;refine(Add_any z z q5 M1 k.t _ s.o Y.o s.o.ob J HL.o.2.2.1 HL.o.2.2.2.1).mono ?_;rintro e w6 ⟨rfl,l,G⟩;rw[HE.o.2.1] at l;have S:Hid (zB w w6):=G.below R.o (by have:=A.o;omega);have u:Hid (Bg w6 z M2):=l;clear l G J;go_wp2_with fail;refine(newInt_any 97 _ (by decide)).mono ?_;rintro e w7 ⟨q7,rfl,a6,F,h⟩;have T:=shB S h;have N7:=u.o.below h;have L:=u.o.ob.lt;have K:q7≠z:=by omega
 have x:Hid (Bg w7 z M2):=N7;have Z:Hid (Bg w7 q7 97):=F;clear h F a6 N7 L;go_wp2_with fail;refine(Mul_any z z q7 M2 97 _ x.o Z.o x.o.ob K HL.o.2.2.2.2.1 HL.o.2.2.2.2.2).mono ?_;rintro e w8 ⟨rfl,m,H⟩;rw[HE.o.2.2] at m;have U:Hid (zB w w8):=H.below T.o (by have:=A.o;omega);have V:Hid (Bg w8 z M3):=m;clear m H K;go_wp2_with fail;go_ret;exact NewPost.mk (by have:=A.o;omega) V.o U.o
theorem number_any(k:Tok)(w:World)(hk:k.ok):
  Calls Tryz.prog 59 #[k.v] w λe w'=>NewPost w (k.num*97) e w':=by
 have b:=body_bd hk;have f:=num_lt hk;have g:=hk.t2;have c:k.body*65536+k.t=k.num:=by unfold Tok.body Tok.num;omega
 have a:∀m,m<4294967296^8→(dig m).length≤100:=λm d=>len100 d;refine number_abs k k.body (k.body*65536) k.num (k.num*97) w (λW=>bodyOf_ok k W hk) ⟨rfl,c,rfl⟩ (by omega) (by omega) ⟨a _ (Nat.lt_of_le_of_lt b (by decide)),a _ (by decide),a _ (Nat.lt_of_le_of_lt (show k.body*65536≤8796093022207*65536 by omega) (by decide)),a _ (Nat.lt_of_le_of_lt g (by decide)),a _ (Nat.lt_trans f (by decide)),a _ (by decide)⟩
end token
end Go.Proofs.YtoepgdhiepedeaaGreatDoor
