import Derived.Test.YtdpfnedfakgolaaGreatDoorVVPer3
import Derived.Test.YtdpfnedfakgolaaGreatDoorVVPer4
set_option linter.unusedVariables false
set_option linter.unusedSimpArgs false
set_option maxHeartbeats 4000000
set_option maxRecDepth 100000
namespace Go.Proofs.YtdpfnedfakgolaaGreatDoor
namespace cell
open Go.RowKit
theorem may_yes (n:Int) (w:World) (h1:1≤n) (h2:n≤2048) :
  Calls Tryz.prog 38 #[zI n] w fun e w'=>e = .returned (.bool true)∧w'=w:=by
 go_enter Tryz.func38,Tryz.ntmps38;go_wp2;go_ret;exact ⟨rfl,rfl⟩
end cell
namespace words
open Go.ChangeShapes Go.WideShapes Go.ChangeAt Go.RowKit
theorem cells_word:Tryz.prog.cellsOf 87=1:=by kernel_rfl
end words
namespace vnd
open ora (Pr)
open cell (Wr RowW)
open Go.RowKit
theorem rowP_upd {w W:World} {g:Nat} {cs:Array Value} {T:TypeId} {p:Option Addr} {n:Nat} {l:List Pr} (h:ora.RowP w p n l) (hU:Upd w W g cs T) (hg:0<n→∀ y,p=some y→y.block≠g):ora.RowP W p n l:=by
 refine ⟨h.1,?_⟩;rcases h.2 with h0 | ⟨b,off,rfl,hc⟩
 ·exact .inl h0
 ·refine .inr ⟨b,off,rfl,fun i hi=>?_⟩;have hne:b≠g:=hg (by omega) _ rfl;obtain ⟨h0,h1,h2,h3⟩:=hc i hi;exact ⟨by rw [hU.cell _ hne rfl];exact h0,by rw [hU.cell _ hne rfl];exact h1,by rw [hU.cell _ hne rfl];exact h2,by rw [hU.cell _ hne rfl];exact h3⟩
theorem rowW_upd {w W:World} {g:Nat} {cs:Array Value} {T:TypeId} {p:Option Addr} {n:Nat} {l:List Wr} (h:RowW w p n l) (hU:Upd w W g cs T) (hg:0<n→∀ y,p=some y→y.block≠g):RowW W p n l:=by
 refine ⟨h.1,?_⟩;rcases h.2 with h0 | ⟨b,off,rfl,hc⟩
 ·exact .inl h0
 ·refine .inr ⟨b,off,rfl,fun i hi=>?_⟩;have hne:b≠g:=hg (by omega) _ rfl;rw [hU.cell _ hne rfl,hU.cell _ hne rfl];exact hc i hi
theorem rowP_lt {w:World} {p:Option Addr} {n:Nat} {l:List Pr} (h:ora.RowP w p n l):0<n→∀ y,p=some y→y.block<w.heap.size:=fun hn y hy=>by
 obtain ⟨b,off,h8,l8,_⟩:=h.at hn;rw [h8] at hy;cases hy;exact l8
end vnd
namespace disk
open Go.RowKit cell
theorem sliT:SliT Tryz.prog 31 173:=⟨by kernel_rfl,Tryz.underlying173⟩
end disk
namespace deb
open tar (Du du0 Came TwoPost)
open Go.RowKit
def KdAge:Prop:=∀ (W:World) (a:Option Addr) (len cap:Nat) (ls:List Du) (m:Int),Came W a len cap ls→(Lit.int .i64 m).wf=true→Calls Tryz.prog 152 #[.slice a len cap,zI m] W fun e w'=>AgePost W ls m e w'
open tar (RowD Ld ErrPost PairT)
theorem dwithin (lo hi n:Int) (w:World):Calls Tryz.prog 153 #[zI lo,zI hi,zI n] w fun e w'=>e = .returned (.bool (decide (lo≤n∧n≤hi)))∧w'=w:=by
 by_cases h1:lo≤n
 ·by_cases h2:n≤hi
  ·have h3:decide (lo≤n∧n≤hi)=true:=by simp;omega
   rw [h3];clear h3;go_enter Tryz.func153,Tryz.ntmps153;go_wp2;go_ret;exact ⟨rfl,rfl⟩
  ·have h3:decide (lo≤n∧n≤hi)=false:=by simp;omega
   have h4:decide (n≤hi)=false:=by simp;omega
   rw [h3];clear h3 h2;go_enter Tryz.func153,Tryz.ntmps153;go_wp2;go_ret;exact ⟨rfl,rfl⟩
 ·have h3:decide (lo≤n∧n≤hi)=false:=by simp;omega
  have h4:decide (lo≤n)=false:=by simp;omega
  rw [h3];clear h3 h1;go_enter Tryz.func153,Tryz.ntmps153;go_wp2;go_ret;exact ⟨rfl,rfl⟩
theorem pcheck (a:Option Addr) (n cap:Nat) (ls:List Du) (w:World) (hr:RowD w a n ls) (hn:n≤maxLen):Calls Tryz.prog 150 #[.slice a n cap] w fun e w'=>∃ f,e = .returned (zI f)∧FaultIs ls f∧Below w.heap.size w w':=by
 have hlen:=hr.1;have HIU:Hid (∀ x W,Calls Tryz.prog 153 #[zI 0,zI 1000000000,zI x] W fun e w'=>e = .returned (.bool (decide (0≤x∧x≤1000000000)))∧w'=W):=fun x W=>dwithin 0 1000000000 x W;have HIP:Hid (∀ x W,Calls Tryz.prog 153 #[zI 0,zI 10000,zI x] W fun e w'=>e = .returned (.bool (decide (0≤x∧x≤10000)))∧w'=W):=fun x W=>dwithin 0 10000 x W;have hnm:n≤9223372036854775807:=by unfold maxLen at hn;omega
 by_cases hs:n≤8
 ·have HS:Hid (ls.length≤8):=by show _≤_;rw [hlen];exact hs
  have hd8:decide (8<(n:Int))=false:=decide_eq_false (by omega);have HROW:Hid (RowD w a n ls):=hr;have HLEN:Hid (ls.length=n):=hlen;clear hr hn hlen;go_enter Tryz.func150,Tryz.ntmps150;go_wp2_with fail;go_loopw [10] (fun x wr=>∃ k:Nat,k≤n∧x=zI (k:Int)∧(∀ i,i<k→Ok1 (ls.getD i du0))∧Below w.heap.size w wr) (fun x _=>n - (intOf x).toNat)
  case atStart=>exact ⟨0,Nat.zero_le _,rfl,fun i hi=>absurd hi (Nat.not_lt_zero _),Below.refl _ _⟩
  case round=>
   obtain ⟨k,hk,rfl,hf,hb⟩:=hrel;have HF:Hid (∀ i,i<k→Ok1 (ls.getD i du0)):=hf;have HB:Hid (Below w.heap.size w wr):=hb;clear hf;by_cases hlt:k<n
   ·have hdl:decide ((k:Int)<(n:Int))=true:=by simp;omega
    obtain ⟨b,off,rfl,hbl,hc⟩:=HROW.o.at (by omega);have c0:wr.cell? ⟨b,off+k*2,none⟩=some (zI (ls.getD k du0).a):=(hb.cell (p:=⟨b,off+k*2,none⟩) hbl).trans (hc k hlt).1;have c1:wr.cell? ⟨b,off+k*2+1,none⟩=some (zI (ls.getD k du0).b):=(hb.cell (p:=⟨b,off+k*2+1,none⟩) hbl).trans (hc k hlt).2;have HBA:Hid (∀ o,Below w.heap.size w (wr.alloc o)):=fun o=>hb.alloc hb.size o;clear hb hc;have HU:=HIU.o (ls.getD k du0).a;have HP:=HIP.o (ls.getD k du0).b;by_cases hu:0≤(ls.getD k du0).a∧(ls.getD k du0).a≤1000000000
    ·rw [decide_eq_true hu] at HU;by_cases hp:0≤(ls.getD k du0).b∧(ls.getD k du0).b≤10000
     ·
      rw [decide_eq_true hp] at HP
      have HF2:Hid (∀ i,i<k+1→Ok1 (ls.getD i du0)):=fun i hi=>by
       by_cases e:i=k
       ·subst e;exact ⟨hu,hp⟩
       ·exact HF.o i (by omega)
      have HU2:Hid (∀ W,Calls Tryz.prog 153 #[zI 0,zI 1000000000,zI (ls.getD k du0).a] W fun e w'=>e = .returned (.bool true)∧w'=W):=HU;have HP2:Hid (∀ W,Calls Tryz.prog 153 #[zI 0,zI 10000,zI (ls.getD k du0).b] W fun e w'=>e = .returned (.bool true)∧w'=W):=HP;clear HU HP hu hp HF;generalize (ls.getD k du0).a=x at *;generalize (ls.getD k du0).b=y at *;go_wp2_with fail;refine (HU2.o _).mono ?_;rintro e w2 ⟨rfl,hw2⟩;subst w2;go_wp2_with fail;refine (HP2.o _).mono ?_;rintro e w2 ⟨rfl,hw2⟩;subst w2;go_wp2_with fail;go_roundw
      case rel=>exact ⟨k+1,by omega,by go_num,HF2.o,HBA.o _⟩
      case measure=>simp [intOf];omega
     ·
      rw [decide_eq_false hp] at HP;have HN:Hid (¬ DFits ls):=fun h=>hp (h k (by rw [HLEN.o];exact hlt)).2;have HU2:Hid (∀ W,Calls Tryz.prog 153 #[zI 0,zI 1000000000,zI (ls.getD k du0).a] W fun e w'=>e = .returned (.bool true)∧w'=W):=HU;have HP2:Hid (∀ W,Calls Tryz.prog 153 #[zI 0,zI 10000,zI (ls.getD k du0).b] W fun e w'=>e = .returned (.bool false)∧w'=W):=HP;clear HU HP hu hp HF;generalize (ls.getD k du0).a=x at *;generalize (ls.getD k du0).b=y at *;go_wp2_with fail;refine (HU2.o _).mono ?_;rintro e w2 ⟨rfl,hw2⟩;subst w2;go_wp2_with fail;refine (HP2.o _).mono ?_;rintro e w2 ⟨rfl,hw2⟩;subst w2;go_wp2_with fail;go_ret;exact ⟨_,rfl,.inr (.inl ⟨HS.o,HN.o,rfl⟩),HBA.o _⟩
    ·
     rw [decide_eq_false hu] at HU;have HN:Hid (¬ DFits ls):=fun h=>hu (h k (by rw [HLEN.o];exact hlt)).1;have HU2:Hid (∀ W,Calls Tryz.prog 153 #[zI 0,zI 1000000000,zI (ls.getD k du0).a] W fun e w'=>e = .returned (.bool false)∧w'=W):=HU;clear HU HP hu HF;generalize (ls.getD k du0).a=x at *;generalize (ls.getD k du0).b=y at *;go_wp2_with fail;refine (HU2.o _).mono ?_;rintro e w2 ⟨rfl,hw2⟩;subst w2;go_wp2_with fail;go_ret;exact ⟨_,rfl,.inr (.inl ⟨HS.o,HN.o,rfl⟩),HBA.o _⟩
   ·obtain rfl:k=n:=by omega
    have hdl:decide ((k:Int)<(k:Int))=false:=by simp
    have HFT:Hid (DFits ls):=fun i hi=>HF.o i (by rw [HLEN.o] at hi;exact hi);clear HF HIU HIP hb;go_wp2_with fail;go_ret;exact ⟨_,rfl,.inr (.inr ⟨⟨HS.o,HFT.o⟩,rfl⟩),HB.o⟩
 ·have HS:Hid (¬ ls.length≤8):=by show ¬ _≤_;rw [hlen];exact hs
  have hd8:decide (8<(n:Int))=true:=decide_eq_true (by omega);clear hs hr hlen hn;go_enter Tryz.func150,Tryz.ntmps150;go_wp2_with fail;go_ret;exact ⟨_,rfl,.inl ⟨HS.o,rfl⟩,Below.refl _ _⟩
def mixK (l:List Du) (m k:Nat):List Du:=ageAll (l.take k) m++l.drop k
theorem mix_all (l:List Du) (m k:Nat) (h:l.length=k):mixK l m k=ageAll l m:=by
 subst h;unfold mixK;rw [List.take_length,List.drop_length,List.append_nil]
theorem mix_len (l:List Du) (m k:Nat) (hk:k≤l.length):(mixK l m k).length=l.length:=by
 unfold mixK;rw [List.length_append,ageAll_len,List.length_take,List.length_drop];omega
theorem drop_one (l:List Du) (k:Nat) (hk:k<l.length):l.drop k=l.getD k du0 :: l.drop (k+1):=by
 rw [List.drop_eq_getElem_cons hk];simp [List.getD,List.getElem?_eq_getElem hk]
theorem mix_at (l:List Du) (m k:Nat) (hk:k<l.length):(mixK l m k).getD k du0=l.getD k du0:=by
 unfold mixK;have e:(ageAll (l.take k) m).length=k:=by rw [ageAll_len,List.length_take];omega
 rw [drop_one l k hk,List.getD,List.getElem?_append_right (by omega),e,Nat.sub_self];simp
theorem mix_set (l:List Du) (m k:Nat) (hk:k<l.length) (d:Du):(mixK l m k).set k d=ageAll (l.take k) m++d :: l.drop (k+1):=by
 unfold mixK;have e:(ageAll (l.take k) m).length=k:=by rw [ageAll_len,List.length_take];omega
 rw [drop_one l k hk,List.set_append_right _ _ (by omega),e,Nat.sub_self,List.set_cons_zero]
theorem mix_next (l:List Du) (m k:Nat) (hk:k<l.length):(mixK l m k).set k ⟨growN (l.getD k du0).b m (l.getD k du0).a,(l.getD k du0).b⟩=mixK l m (k+1):=by
 rw [mix_set l m k hk];unfold mixK;rw [ageAll_take l m k hk];simp
theorem mix_same (l:List Du) (m k:Nat) (hk:k<l.length):(mixK l m k).set k ⟨growN (l.getD k du0).b 0 (l.getD k du0).a,(l.getD k du0).b⟩=mixK l m k:=by
 rw [mix_set l m k hk];show ageAll (l.take k) m++l.getD k du0 :: l.drop (k+1)=mixK l m k;unfold mixK;rw [drop_one l k hk]
theorem cells_set (l:List Du) (k:Nat) (hk:k<l.length) (x b:Int) (hb:(l.getD k du0).b=b):tar.cellsD (l.set k ⟨x,b⟩)=(tar.cellsD l).set (k*2) (zI x):=by
 induction l generalizing k with
 | nil=>simp at hk
 | cons d l ih=>
  cases k with
  | zero=>
   have e:d.b=b:=by simpa using hb
   subst e;rfl
  | succ k=>
   rw [show (k+1)*2=k*2+1+1 by omega];have h1:k<l.length:=by simpa using hk
   have h2:=ih k h1 (by simpa using hb);show tar.cellsD (d :: l.set k ⟨x,b⟩)=_;simp only [tar.cellsD,List.set_cons_succ,h2]
theorem ld_put {T:TypeId} {w W:World} {base g n cap:Nat} {l:List Du} {cur:Array Value} (h:Ld T w base (.slice (some ⟨g,0,none⟩) n cap) l) (hB:Blk w g cur T) (k:Nat) (hk:k<l.length) (x b:Int) (hb:(l.getD k du0).b=b) (hU:Upd w W g (cur.setIfInBounds (k*2) (zI x)) T):Ld T W base (.slice (some ⟨g,0,none⟩) n cap) (l.set k ⟨x,b⟩):=by
 unfold Ld at *;rw [List.length_set,cells_set l k hk x b hb];refine ⟨by rw [List.length_set];exact h.1,?_⟩;rcases h.2 with ⟨h',_⟩ | ⟨g',cap',cur',hv,hg,hc,hn,hm,hz,ht⟩
 ·cases h'
 ·simp only [Value.slice.injEq,Option.some.injEq,Addr.mk.injEq,and_true] at hv;obtain ⟨rfl,rfl,rfl⟩:=hv
  have e:cur'=cur:=by
   have h1:w.heap[g]?=some (.cells cur T (0,0)):=hB;rw [h1] at hc;injection hc with hc
   injection hc with hc
   exact hc.symm
  subst e;exact .inr ⟨g,cap,_,rfl,hg,hU.blk,hn,hm,by simpa using hz,by rw [Array.toList_setIfInBounds,← ht,List.take_set]⟩
theorem ld_lies {T:TypeId} {w:World} {base n cap:Nat} {a:Option Addr} {l:List Du} (h:Ld T w base (.slice a n cap) l) (hn:0<n):∃ g cur,a=some ⟨g,0,none⟩∧base≤g∧Blk w g cur T∧n*2≤cur.size∧(∀ k,k<l.length→w.cell? ⟨g,k*2,none⟩=some (zI (l.getD k du0).a)∧w.cell? ⟨g,k*2+1,none⟩=some (zI (l.getD k du0).b)):=by
 rcases h.2 with ⟨h',h0⟩ | ⟨g,cap',cur,hv,hg,hc,hle,hm,hz,ht⟩
 ·simp only [Value.slice.injEq] at h';omega
 ·simp only [Value.slice.injEq] at hv;obtain ⟨rfl,rfl,rfl⟩:=hv;refine ⟨g,cur,rfl,hg,hc,by omega,fun k hk=>?_⟩;have e1:=World.ownsRow.cellAt h (k*2) (by omega);have e2:=World.ownsRow.cellAt h (k*2+1) (by omega);rw [e1,e2];exact tar.cellsD_at l k hk
end deb
section
open Go.RowKit
theorem operIn_round {F:Fence} {n:Nat} {P:Program} (hro:F.round=none) (l:Nat) {o:Oper} (hd:∀ c,o.op ≠ .defer c) {a:Act} {w:World} {K K':Act→World→Prop} {Q:Exit→Act→World→Prop} (hK:∀ a w,K a w→K' a w) (h:o.wpIn F n P a w K Q):o.wpIn (F.inRound l) n P a w K' Q:=by
 have h2:=Oper.wpIn_mono hK h;unfold Oper.wpIn at *;refine ⟨h2.1,?_⟩;have h3:=h2.2;rw [hro,Oper.semAt_none] at h3;rw [Fence.inRound_round,Oper.semAt_some l _ _ hd];generalize (execOp a.eval o).run P w=r at *;cases r with
 | ok x w'=>cases x <;> exact h3
 | halt x w'=>cases x <;> exact h3
theorem opsIn_round {F:Fence} {n:Nat} {P:Program} {ops:Array Oper} {Q:Exit→Act→World→Prop} (hro:F.round=none) (l:Nat) (hd:∀ (i:Nat) (o:Oper),ops[i]?=some o→∀ c,o.op ≠ .defer c):∀ (s:List Nat) (a:Act) (w:World),wpOpsIn F n P ops Q s a w→wpOpsIn (F.inRound l) n P ops Q s a w
 | [],_,_,h=>h
 | i :: s,a,w,h=>by
  unfold wpOpsIn at h ⊢;cases hi:ops[i]? with
  | none=>rw [hi] at h;exact opsIn_round hro l hd s a w h
  | some o=>
   rw [hi] at h;dsimp only at h ⊢;by_cases hw:Region.wanted o (yielded ops a.tmps)=true
   ·rw [if_pos hw] at h ⊢;exact operIn_round hro l (hd i o hi) (fun a w h=>opsIn_round hro l hd s a w h) h
   ·rw [if_neg hw] at h ⊢;exact ⟨h.1,opsIn_round hro l hd s _ w h.2⟩
def noDefer (l:List Oper):Bool:=l.all fun o=>match o.op with | .defer _=>false | _=>true
theorem noDefer_spec {l:List Oper} (h:noDefer l=true) (i:Nat) (o:Oper) (ho:l.toArray[i]?=some o) (c:Call):o.op ≠ .defer c:=by
 intro e
 have h1:o∈l:=by
  have:l[i]?=some o:=by simpa using ho
  exact List.mem_of_getElem? this
 have h2:=List.all_eq_true.1 h o h1;rw [e] at h2;exact Bool.noConfusion h2
theorem round_quiet {F:Fence} {n:Nat} {P:Program} {id:Nat} {Q:Exit→Act→World→Prop} {a:Act} {w:World} {l:List Oper} {r:Nat} (hro:F.round=none) (hm:P.follows .mixedOrders=true) (hB:Region.lexB .any l.toArray=true) (hd:noDefer l=true)
  (h:wpQuietIn F n P l.toArray (fun w'=>∃ n,w'=w.drewN n) (fun a'=>∀ w',(∃ n,w'=w.drewN n)→Q .normal a' w') l a):(Code.region id l.toArray true).wpIn (F.inRound r) n P Q a w:=by
 simp only [Region.lexB,Bool.and_eq_true] at hB;refine wpIn_region_draw fun t=>opsIn_round hro r (noDefer_spec hd) _ _ _ ?_;simp only [Region.schedule,hm,Bool.true_or,if_true];refine wpAnyIn_sound _ t _ a _ ?_;refine wpAnyIn_of_quiet (C:=fun w'=>∃ n,w'=w.drewN n) (Q:=fun a'=>∀ w',(∃ n,w'=w.drewN n)→Q .normal a' w') hro (fun _ w' hw' h=>h w' hw') _ _ _ _ ⟨1,rfl⟩ ?_;have:=wpAnyQIn_lex (F:=F) (n:=n) (C:=fun w'=>∃ n,w'=w.drewN n) (md:= .any) hB.1 l 0 (Array.replicate l.toArray.size false) a (by simp) (by simpa using hB.2) h;simpa using this
end
namespace deb
open tar (Du du0 Came TwoPost)
open Go.RowKit
def KdTotal:Prop:=∀ (W:World) (a:Option Addr) (len cap:Nat) (ls:List Du),Came W a len cap ls→Calls Tryz.prog 139 #[.slice a len cap] W fun e w'=>TwoPost W (OwedIs ls) e w'
end deb
end Go.Proofs.YtdpfnedfakgolaaGreatDoor
namespace Go.Proofs
open Go.Shelf
def Tryz.lays105_ren : Go.Shelf.Ren := ⟨fun | 105 => 68 | 212 => 97 | 99 => 98 | 165 => 99 | 166 => 100 | 170 => 101 | 169 => 102 | 263 => 126 | 264 => 127 | 206 => 128 | 240 => 129 | 241 => 130 | 276 => 145 | 277 => 146 | n => n, fun | 9 => 9 | 3 => 3 | 4 => 4 | 20 => 20 | 0 => 0 | 46 => 144 | 109 => 202 | 5 => 5 | 72 => 207 | 76 => 211 | 51 => 87 | 146 => 241 | 53 => 97 | 148 => 243 | 70 => 205 | 37 => 201 | 75 => 210 | 127 => 245 | 164 => 264 | 80 => 214 | n => n, fun | n => n⟩
theorem Tryz.lays105 : Go.Proofs.Lays.n105 Tryz.prog Tryz.lays105_ren := {
 mixed := by kernel_rfl
 f99 := Tryz.func98.trans (congrArg some (by kernel_rfl))
 f105 := Tryz.func68.trans (congrArg some (by kernel_rfl))
 f165 := Tryz.func99.trans (congrArg some (by kernel_rfl))
 f166 := Tryz.func100.trans (congrArg some (by kernel_rfl))
 f169 := Tryz.func102.trans (congrArg some (by kernel_rfl))
 f170 := Tryz.func101.trans (congrArg some (by kernel_rfl))
 f206 := Tryz.func128.trans (congrArg some (by kernel_rfl))
 f212 := Tryz.func97.trans (congrArg some (by kernel_rfl))
 f240 := Tryz.func129.trans (congrArg some (by kernel_rfl))
 f241 := Tryz.func130.trans (congrArg some (by kernel_rfl))
 f263 := Tryz.func126.trans (congrArg some (by kernel_rfl))
 f264 := Tryz.func127.trans (congrArg some (by kernel_rfl))
 f276 := Tryz.func145.trans (congrArg some (by kernel_rfl))
 f277 := Tryz.func146.trans (congrArg some (by kernel_rfl))
 t0 := Tryz.underlying0
 a0 := Tryz.isAgg0
 z0 := Tryz.sizeOf0
 v0 := Tryz.zeroValue0
 t3 := Tryz.underlying3
 a3 := Tryz.isAgg3
 z3 := Tryz.sizeOf3
 v3 := Tryz.zeroValue3
 t4 := Tryz.underlying4
 a4 := Tryz.isAgg4
 z4 := Tryz.sizeOf4
 v4 := Tryz.zeroValue4
 t5 := Tryz.underlying5
 a5 := Tryz.isAgg5
 z5 := Tryz.sizeOf5
 v5 := Tryz.zeroValue5
 t9 := Tryz.underlying9
 a9 := Tryz.isAgg9
 z9 := Tryz.sizeOf9
 v9 := Tryz.zeroValue9
 t20 := Tryz.underlying20
 a20 := Tryz.isAgg20
 z20 := Tryz.sizeOf20
 v20 := Tryz.zeroValue20
 t37 := Tryz.underlying201
 a37 := Tryz.isAgg201
 z37 := Tryz.sizeOf201
 v37 := Tryz.zeroValue201
 t46 := Tryz.underlying144
 a46 := Tryz.isAgg144
 z46 := Tryz.sizeOf144
 v46 := Tryz.zeroValue144
 t51 := Tryz.underlying87
 a51 := Tryz.isAgg87
 z51 := Tryz.sizeOf87
 v51 := Tryz.zeroValue87
 t53 := Tryz.underlying97
 a53 := Tryz.isAgg97
 z53 := Tryz.sizeOf97
 v53 := Tryz.zeroValue97
 t70 := Tryz.underlying205
 a70 := Tryz.isAgg205
 z70 := Tryz.sizeOf205
 v70 := Tryz.zeroValue205
 t72 := Tryz.underlying207
 a72 := Tryz.isAgg207
 z72 := Tryz.sizeOf207
 v72 := Tryz.zeroValue207
 t75 := Tryz.underlying210
 a75 := Tryz.isAgg210
 z75 := Tryz.sizeOf210
 v75 := Tryz.zeroValue210
 t76 := Tryz.underlying211
 a76 := Tryz.isAgg211
 z76 := Tryz.sizeOf211
 v76 := Tryz.zeroValue211
 t109 := Tryz.underlying202
 a109 := Tryz.isAgg202
 z109 := Tryz.sizeOf202
 v109 := Tryz.zeroValue202
 t127 := Tryz.underlying245
 a127 := Tryz.isAgg245
 z127 := Tryz.sizeOf245
 v127 := Tryz.zeroValue245
 t146 := Tryz.underlying241
 a146 := Tryz.isAgg241
 z146 := Tryz.sizeOf241
 v146 := Tryz.zeroValue241
 t148 := Tryz.underlying243
 a148 := Tryz.isAgg243
 z148 := Tryz.sizeOf243
 v148 := Tryz.zeroValue243
 t164 := Tryz.underlying264
 a164 := Tryz.isAgg264
 z164 := Tryz.sizeOf264
 v164 := Tryz.zeroValue264 }
theorem Tryz.Builder_Extra_105 : Builder.Extra Tryz.prog Tryz.lays105_ren := {
 sizeBuilder := by kernel_rfl
 liesBuilder := by kernel_rfl
 t5 := Tryz.underlying5
 a5 := Tryz.isAgg5
 z5 := Tryz.sizeOf5
 v5 := Tryz.zeroValue5
 infoByte := by kernel_rfl
 cellsByte := by kernel_rfl
 sizeByte := by kernel_rfl
 neB5 := by decide }
open Go.RowKit Go.Lib in
theorem Tryz.strings_Repeat (s : ByteArray) (c : Nat) (w : World) (hc : c ≤ 9223372036854775807) (hlen : s.size * c ≤ 140737488355328) :
  Calls Tryz.prog 68 #[.string s, .int .i64 c] w fun e w' => e = .returned (.string ⟨(Lib.repeatL s.data.toList c).toArray⟩) ∧ Below w.heap.size w w' := Any.strings_Repeat Tryz.lays105 Tryz.Builder_Extra_105 s c w hc hlen
end Go.Proofs
namespace Go.Proofs.YtdpfnedfakgolaaGreatDoor
end Go.Proofs.YtdpfnedfakgolaaGreatDoor
