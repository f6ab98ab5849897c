import Derived.Test.YtnpblpbohcegoaaGreatDoorVBTed8
import Derived.Test.YtnpblpbohcegoaaGreatDoorVBTed9
set_option linter.unusedVariables false
set_option linter.unusedSimpArgs false
set_option maxHeartbeats 4000000
set_option maxRecDepth 100000
namespace Go.Proofs.YtnpblpbohcegoaaGreatDoor
namespace book
open Go.RowKit
open acc (Ac Tm Bi APost BPost OweIs SellIs GrantIs RekeyIs)
def Small (bk:List Cm) (k:Nat):Prop:=bk.length≤k∧∀ c∈bk,c.so.length≤k∧0≤c.a.rv∧c.a.rv≤15
theorem Small.zero:Small [] 0:=⟨Nat.le_refl _,fun c hc=>by cases hc⟩
theorem owe_rv {a b:Ac} {d:tar.Du} (h:OweIs a d b 0) (hr:0≤a.rv∧a.rv≤15):0≤b.rv∧b.rv≤15:=by
 rcases h with ⟨_,_,e⟩ | ⟨_,_,_,e⟩ | ⟨_,_,_,_,e⟩ | ⟨_,_,_,rfl,_⟩
 ·cases e
 ·cases e
 ·cases e
 ·exact hr
theorem tells_rv {t:Tm} {c:Cm} {v:Ev} {b:Ac} {l:Bi} (h:Tells t c v b l 0) (hr:0≤c.a.rv∧c.a.rv≤15):0≤b.rv∧b.rv≤15:=by
 rcases h with ⟨_,h⟩ | ⟨_,h⟩ | ⟨_,h⟩
 ·rcases h with ⟨p,rfl,_⟩ | ⟨_,_,e,_⟩ | ⟨_,_,_,e,_⟩ | ⟨_,_,_,_,u,_,rfl,_⟩
  ·exact ⟨Int.le_refl _,by show (0:Int)≤15;decide⟩
  ·cases e
  ·cases e
  ·exact hr
 ·rcases h with ⟨p,rfl,_⟩ | ⟨_,_,e,_⟩ | ⟨_,_,_,e,_⟩ | ⟨_,_,_,_,e,_⟩ | ⟨_,_,_,_,_,rfl,_⟩
  ·exact ⟨Int.le_refl _,by show (0:Int)≤15;decide⟩
  ·cases e
  ·cases e
  ·cases e
  ·exact hr
 ·rcases h with ⟨_,_,_,e⟩ | ⟨_,_,_,_,e⟩ | ⟨_,_,_,_,_,e⟩ | ⟨_,q,_,rfl,_,_⟩
  ·cases e
  ·cases e
  ·cases e
  ·exact ⟨by show 0≤c.a.rv+1;omega,by show c.a.rv+1≤15;omega⟩
theorem hap_small {t:Tm} {c c':Cm} {v:Ev} {k:Nat} (h:HapIs t c v c' 0) (hs:c.so.length≤k∧0≤c.a.rv∧c.a.rv≤15):c'.so.length≤k+1∧0≤c'.a.rv∧c'.a.rv≤15:=by
 rcases h with ⟨_,b,q,r⟩ | ⟨_,b,l,e,q,r⟩
 ·rw [r rfl];exact ⟨by show c.so.length≤k+1;omega,owe_rv q hs.2⟩
 ·rcases r with ⟨x,y⟩ | ⟨_,_,y⟩ | ⟨x,_,_,rfl⟩
  ·exact absurd y.symm x
  ·cases y
  ·subst x;refine ⟨?_,tells_rv q hs.2⟩;show (c.so++[_]).length≤k+1;rw [List.length_append];exact Nat.succ_le_succ hs.1
theorem step_small {t:Tm} {bk bk':List Cm} {v:Ev} {k:Nat} (h:StepIs t bk v bk' 0) (hs:Small bk k):Small bk' (k+1):=by
 rcases h with ⟨_,e⟩ | ⟨_,_,_,e⟩ | ⟨_,_,_,_,rfl⟩ | ⟨_,_,_,e⟩ | ⟨_,_,j,c',hj,hh,he⟩
 ·cases e
 ·cases e
 ·refine ⟨by rw [List.length_append];exact Nat.succ_le_succ hs.1,fun c hc=>?_⟩;rcases List.mem_append.1 hc with h | h
  ·have:=hs.2 c h;omega
  ·rw [List.mem_singleton.1 h];exact ⟨Nat.zero_le _,Int.le_refl _,by show (0:Int)≤15;decide⟩
 ·cases e
 ·rw [he rfl]
  have hm:bk.getD j cm0∈bk:=by
   have:bk.getD j cm0=bk[j]'hj.1:=by simp [List.getD,List.getElem?_eq_getElem hj.1]
   rw [this];exact List.getElem_mem _
  refine ⟨by rw [List.length_set];have:=hs.1;omega,fun c hc=>?_⟩;rcases List.mem_or_eq_of_mem_set hc with h | rfl
  ·have:=hs.2 c h;omega
  ·exact hap_small hh (hs.2 _ hm)
end book
namespace vnd
open disk (RepIs AppIs May repD lenAt)
open book (Ev ev0 EMay evL evOf EncIs DecIs Cm cm0 So so0 BookIs FirstAt NoneAt Tells billOf soldOf)
open acc (Ac Tm Bi SellIs GrantIs RekeyIs OweIs)
open ora (Pr IssueIs)
open cell (Wr)
open rcp (Rc rc0)
open token (Tok fmtL)
def DecOk (z:List Int):Prop:=z.length=13∧EMay (evOf z)
theorem DecOk.zero {z:List Int} {v:Ev} {e:Int} (h:DecOk z) (hd:DecIs z v e):e=0∧v=evOf z:=by
 rcases hd with ⟨p,_⟩ | ⟨_,q,_⟩ | ⟨_,_,r,s⟩
 ·exact absurd h.1 p
 ·exact absurd h.2 q
 ·exact ⟨s,r⟩
theorem dec_ok {z:List Int} {v:Ev} (hd:DecIs z v 0):DecOk z∧v=evOf z:=by
 rcases hd with ⟨_,_,r⟩ | ⟨_,_,_,r⟩ | ⟨p,q,r,_⟩
 ·cases r
 ·cases r
 ·exact ⟨⟨p,q⟩,r⟩
theorem dec_no {z:List Int} {v:Ev} {e:Int} (hd:DecIs z v e) (h:e≠0):v=ev0:=by
 rcases hd with ⟨_,r,_⟩ | ⟨_,_,r,_⟩ | ⟨_,_,_,r⟩
 ·exact r
 ·exact r
 ·exact absurd r h
def KeptIs (c:List Int) (l:List Ev) (e:Int):Prop:=
 ∃ o x f,RepIs c o x f∧((f≠0∧l=[]∧e=f)∨(f=0∧(∀ j,j<o.length→DecOk (o.getD j []))∧l=o.map evOf∧e=0) ∨
  (f=0∧e≠0∧l=[]∧∃ k,k<o.length∧(∀ j,j<k→DecOk (o.getD j []))∧DecIs (o.getD k []) ev0 e))
theorem KeptIs.one {c:List Int} {l l':List Ev} {e e':Int} (h:KeptIs c l e) (h':KeptIs c l' e'):l=l'∧e=e':=by
 obtain ⟨o,x,f,hr,h⟩:=h;obtain ⟨o',x',f',hr',h'⟩:=h';obtain ⟨rfl,rfl,rfl⟩:=hr.one hr';rcases h with ⟨p,rfl,rfl⟩ | ⟨p,q,rfl,rfl⟩ | ⟨p,q,rfl,k,k1,k2,k3⟩ <;> rcases h' with ⟨p',rfl,rfl⟩ | ⟨p',q',rfl,rfl⟩ | ⟨p',q',rfl,k',k1',k2',k3'⟩ <;> first | exact ⟨rfl,rfl⟩ | contradiction | skip
 ·exact absurd ((q k' k1').zero k3').1 q'
 ·exact absurd ((q' k k1).zero k3).1 q
 ·rcases Nat.lt_trichotomy k k' with c | c | c
  ·exact absurd ((k2' k c).zero k3).1 q
  ·subst c;exact ⟨rfl,(k3.one k3').2⟩
  ·exact absurd ((k2 k' c).zero k3').1 q'
def LoadIs (t:Tm) (c:List Int) (bk:List Cm) (f:Int):Prop:=∃ l e,KeptIs c l e∧((e≠0∧bk=[]∧f=e)∨(e=0∧∃ a,BookIs t l bk a f))
theorem LoadIs.one {t:Tm} {c:List Int} {b b':List Cm} {f f':Int} (h:LoadIs t c b f) (h':LoadIs t c b' f'):b=b'∧f=f':=by
 obtain ⟨l,e,hk,h⟩:=h;obtain ⟨l',e',hk',h'⟩:=h';obtain ⟨rfl,rfl⟩:=hk.one hk';rcases h with ⟨p,rfl,rfl⟩ | ⟨p,a,q⟩ <;> rcases h' with ⟨p',rfl,rfl⟩ | ⟨p',a',q'⟩ <;> first | exact ⟨rfl,rfl⟩ | contradiction | exact ⟨(q.one q').1,(q.one q').2.2⟩
def KeepIs (c:List Int) (v:Ev) (ls:List Wr) (f:Int):Prop:=
 ∃ l e,KeptIs c l e∧((¬ l.length<120∧ls=[]∧f=16)∨(l.length<120∧∃ ws g,EncIs v ws g∧((g≠0∧ls=[]∧f=g)∨(g=0∧AppIs c ws ls f))))
def regE (me:Int):Ev:=⟨1,me,0,0,0,0,0,0,0,0,0,0,0⟩
def chaE (me ow bp:Int):Ev:=⟨5,me,0,0,0,0,0,0,0,0,0,ow,bp⟩
def tokE (kd me mo:Int) (l:Bi) (tg:Int):Ev:=⟨kd,me,mo,l.id,l.te,l.de,l.fe,l.pr,l.ch,l.un,tg,0,0⟩
def askE (kd me te mo:Int):Ev:=⟨kd,me,mo,0,te,0,0,0,0,0,0,0,0⟩
def RegIs (t:Tm) (c:List Int) (me:Int) (ls:List Wr) (f:Int):Prop:=
 ∃ bk g,LoadIs t c bk g∧((g≠0∧ls=[]∧f=g)∨(g=0∧¬ (0≤me∧me≤49)∧ls=[]∧f=2)∨(g=0∧(0≤me∧me≤49)∧¬ NoneAt bk me∧ls=[]∧f=21)∨(g=0∧(0≤me∧me≤49)∧NoneAt bk me∧KeepIs c (regE me) ls f))
def ChaIs (t:Tm) (c:List Int) (me ow bp:Int) (ls:List Wr) (f:Int):Prop:=
 ∃ bk g,LoadIs t c bk g∧((g≠0∧ls=[]∧f=g)∨(g=0∧NoneAt bk me∧ls=[]∧f=18)∨(g=0∧∃ k b h,FirstAt bk me k∧OweIs (bk.getD k cm0).a ⟨ow,bp⟩ b h∧((h≠0∧ls=[]∧f=h)∨(h=0∧KeepIs c (chaE me ow bp) ls f))))
def tokB (kd rv:Int) (l:Bi) (tg:Int):Tok:=if kd=4 then ⟨2,l.id.toNat,(rv+1).toNat,tg.toNat⟩ else ⟨0,l.id.toNat,l.un.toNat,tg.toNat⟩
def recB (kd rv me:Int) (l:Bi) (tg:Int):Rc:=⟨me,l.id,l.te,l.de,l.fe,l.pr,l.ch,l.un,fmtL (97*(tokB kd rv l tg).num)⟩
def Gone (ls:List Wr) (o':List Pr) (r:Rc) (f x:Int):Prop:=ls=[]∧o'=[]∧r=rc0∧f=x
def TagIs (kd rv me mo dr:Int) (c:List Int) (o:List Pr) (l:Bi) (ls:List Wr) (o':List Pr) (r:Rc) (f:Int):Prop:=
 ∃ o2 tg g,IssueIs o me rv ((tokB kd rv l 0).body:Int) dr o2 tg g∧((g≠0∧Gone ls o' r f g)∨(g=0∧∃ l2 g3,KeepIs c (tokE kd me mo l tg) l2 g3∧((g3≠0∧Gone ls o' r f g3)∨(g3=0∧ls=l2∧o'=o2∧r=recB kd rv me l tg∧f=0))))
def TokIs (kd:Int) (t:Tm) (c:List Int) (o:List Pr) (me te mo dr:Int) (ls:List Wr) (o':List Pr) (r:Rc) (f:Int):Prop:=
 ∃ bk g,LoadIs t c bk g∧((g≠0∧Gone ls o' r f g)∨(g=0∧NoneAt bk me∧Gone ls o' r f 18)∨(g=0∧∃ k b l h,FirstAt bk me k∧Tells t (bk.getD k cm0) (askE kd me te mo) b l h∧((h≠0∧Gone ls o' r f h)∨(h=0∧TagIs kd (bk.getD k cm0).a.rv me mo dr c o l ls o' r f))))
end vnd
namespace acc
open tar (Du du0 Right MostOf cost Top)
open deb (sumD recK ageAll)
open Go.RowKit
theorem tright_wf {t:Tm} (h:TRight t):wf4 t:=by
 obtain ⟨_,⟨a1,a2⟩,⟨b1,b2⟩,⟨c1,c2⟩,d1,d2⟩:=h;exact ⟨tar.wf_mid a1 (by omega),tar.wf_mid b1 (by omega),tar.wf_mid c1 (by omega),tar.wf_mid d1 (by omega)⟩
theorem rec_bd {te db:Int} (h0:0≤te) (h1:te≤100000000) (h2:0≤db) (h3:db≤10000):0≤te*db / 10000∧te*db / 10000≤te:=by
 have a:=Int.mul_nonneg h0 h2;have b:te*db≤te*10000:=Int.mul_le_mul_of_nonneg_left h3 h0;omega
theorem most_cost {l:List Du} {x m u:Int} (h:Right l) (hx:0≤x) (hu:MostOf l x m u) (h1:1≤u):0<cost l x (x+u)∧cost l x (x+u)≤m∧x+u≤10000000∧u≤2097151:=by
 have h2:=hu.1.2;have h3:=tar.cost_bd h x (x+u) hx (by omega) (by unfold Top at h2;omega);exact ⟨by omega,hu.2.1,by unfold Top at h2;omega,by unfold Top at h2;omega⟩
theorem mays_sum {l:List Du} (h:deb.Mays l):0≤sumD l∧sumD l≤8000000000:=by
 have h1:=deb.sumD_pos (l:=l) (deb.mem_fits h.2);have h2:=h.1;exact ⟨h1.1,by have:=h1.2;omega⟩
open tar (Came RowD Ld PairT)
theorem row_upd {w W:World} {g:Nat} {new:Array Value} {t:TypeId} {p:Option Addr} {len:Nat} {l:List Du} (h:RowD w p len l) (hU:Upd w W g new t) (hg:0<len→∀ x,p=some x→x.block≠g):RowD W p len l:=by
 refine ⟨h.1,?_⟩;rcases h.2 with h0 | ⟨b,off,rfl,hc⟩
 ·exact .inl h0
 ·refine .inr ⟨b,off,rfl,fun i hi=>?_⟩;have hne:b≠g:=hg (by omega) _ rfl;rw [hU.cell ⟨b,off+i*2,none⟩ hne rfl,hU.cell ⟨b,off+i*2+1,none⟩ hne rfl];exact hc i hi
theorem came_upd {w W:World} {g:Nat} {new:Array Value} {t:TypeId} {p:Option Addr} {len cap:Nat} {l:List Du} (h:Came w p len cap l) (hU:Upd w W g new t) (hg:0<len→∀ x,p=some x→x.block≠g):Came W p len cap l:=⟨row_upd h.row hU hg,h.nil,h.room,h.bytes,h.wf⟩
theorem fresh_updN {w W:World} {g base:Nat} {new:Array Value} {t:TypeId} {p:Option Addr} {len cap:Nat} {l:List Du} (h:deb.Fresh w base p len cap l) (hU:Upd w W g new t) (hg:0<len→∀ x,p=some x→x.block≠g):deb.Fresh W base p len cap l:=⟨came_upd h.came hU hg,h.new⟩
theorem fresh_drew {w:World} {base:Nat} {p:Option Addr} {len cap:Nat} {l:List Du} (h:deb.Fresh w base p len cap l):deb.Fresh w.drew base p len cap l:=⟨⟨h.came.row,h.came.nil,h.came.room,h.came.bytes,h.came.wf⟩,h.new⟩
theorem ld_upd {T:TypeId} {w W:World} {g base:Nat} {new:Array Value} {t:TypeId} {v:Value} {l:List Du} (h:Ld T w base v l) (hU:Upd w W g new t) (hg:g<base):Ld T W base v l:=by
 refine ⟨h.1,?_⟩;rcases h.2 with hn | ⟨q,cap,cur,hv,hq,hc,rest⟩
 ·exact .inl hn
 ·exact .inr ⟨q,cap,cur,hv,hq,hU.keep hc (by omega),rest⟩
theorem came_lt {w:World} {p:Option Addr} {len cap:Nat} {l:List Du} (h:Came w p len cap l):0<len→∀ x,p=some x→x.block<w.heap.size:=fun hn x hx=>by
 obtain ⟨b,off,hp,hb,_⟩:=h.row.at hn;rw [hp] at hx;cases hx;exact hb
end acc
namespace tar
theorem getD_snoc (Z:List Du) (r:Du) (i:Nat):(Z++[r]).getD i du0=if i<Z.length then Z.getD i du0 else if i=Z.length then r else du0:=by
 by_cases h:i<Z.length
 ·rw [if_pos h];simp [List.getD,List.getElem?_append_left h]
 ·rw [if_neg h];by_cases h2:i=Z.length
  ·subst h2;simp [List.getD]
  ·rw [if_neg h2];have:(Z++[r])[i]?=none:=List.getElem?_eq_none (by simp;omega);simp [List.getD,this]
structure Grow (Z:List Du) (k:Nat) (up:Int):Prop where
 len:Z.length=k
 fit:∀ i,i<k→(1≤(Z.getD i du0).a∧(Z.getD i du0).a≤up)∧1≤(Z.getD i du0).b∧(Z.getD i du0).b≤100000
 rise:∀ i,1≤i→i<k→(Z.getD (i - 1) du0).a<(Z.getD i du0).a
 low:0≤up
 top:up≤(k:Int)*1000000
theorem Grow.zero:Grow [] 0 0:=⟨rfl,fun i hi=>absurd hi (Nat.not_lt_zero _),fun i _ hi=>absurd hi (Nat.not_lt_zero _),by decide,by decide⟩
theorem Grow.step {Z:List Du} {k:Nat} {up d p:Int} (h:Grow Z k up) (d1:1≤d) (d2:d≤1000000) (p1:1≤p) (p2:p≤100000):Grow (Z++[⟨up+d,p⟩]) (k+1) (up+d):=by
 have h0:=h.low;refine ⟨by rw [List.length_append,h.len];rfl,fun i hi=>?_,fun i h1 hi=>?_,by omega,?_⟩
 ·rw [getD_snoc,h.len];by_cases e:i<k
  ·rw [if_pos e];have:=h.fit i e;exact ⟨⟨this.1.1,by omega⟩,this.2⟩
  ·rw [if_neg e,if_pos (by omega)];exact ⟨⟨by show 1≤up+d;omega,Int.le_refl _⟩,p1,p2⟩
 ·rw [getD_snoc,getD_snoc,h.len];by_cases e:i<k
  ·rw [if_pos (by omega),if_pos e];exact h.rise i h1 e
  ·rw [if_pos (by omega),if_neg e,if_pos (by omega)];have:=(h.fit (i - 1) (by omega)).1.2;show _<up+d;omega
 ·have:=h.top;omega
theorem Grow.right {Z:List Du} {k:Nat} {up p:Int} (h:Grow Z k up) (hk:k≤7) (p1:1≤p) (p2:p≤100000):Right (Z++[⟨10000000,p⟩]):=by
 have h0:=h.low;have h1:=h.top;have hl:(Z++[(⟨10000000,p⟩:Du)]).length=k+1:=by rw [List.length_append,h.len];rfl
 refine ⟨⟨by rw [hl];omega,by rw [hl];omega⟩,fun i hi=>?_,fun i h1 hi=>?_,?_⟩
 ·rw [hl] at hi;rw [getD_snoc,h.len];by_cases e:i<k
  ·rw [if_pos e];have:=h.fit i e;exact ⟨⟨this.1.1,by omega⟩,this.2⟩
  ·rw [if_neg e,if_pos (by omega)];exact ⟨⟨(by decide:(1:Int)≤10000000),Int.le_refl _⟩,p1,p2⟩
 ·rw [hl] at hi;rw [getD_snoc,getD_snoc,h.len];by_cases e:i<k
  ·rw [if_pos (by omega),if_pos e];exact h.rise i h1 e
  ·rw [if_pos (by omega),if_neg e,if_pos (by omega)];have:=(h.fit (i - 1) (by omega)).1.2;show _<(10000000:Int);omega
 ·unfold Ends;rw [hl,show k+1 - 1=k by omega,getD_snoc,h.len,if_neg (by omega),if_pos rfl]
end tar
namespace disk
open Go.RowKit cell
theorem clone_any (x:Addr) (len cap:Nat) (zs:List Int) (w:World) (hr:RowU w (some x) len zs) (hl:len≤100000) :
  Calls Tryz.prog 64 #[.slice (some x) len cap] w fun e w'=>GaveU w zs e w':=by
 obtain ⟨i0,hi,hz0,hz1,hz2⟩:=info_parts info_u32;obtain ⟨hz,hr⟩:=hr;have hown:(w.alloc (.cells #[] 99)).ownsRow w.heap.size 99 1 (.slice (some ⟨w.heap.size,0,none⟩) 0 0) 0 []:=World.ownsRow_lit w #[] 0 (Nat.le_refl _) (by unfold maxLen;omega) rfl;have HO:Hid ((w.alloc (.cells #[] 99)).ownsRow w.heap.size 99 1 (.slice (some ⟨w.heap.size,0,none⟩) 0 0) 0 []):=hown;have HSZ:Hid (w.heap.size≤(w.alloc (.cells #[] 99)).heap.size):=alloc_le (Nat.le_refl _) _;clear hown;have heq:∀ W:World,(binOp BinOp.eql 25 (.slice (some x) len cap) (zS)).run Tryz.prog W = .ok (.bool false) W:=fun W=>by kernel_rfl
 go_enter Tryz.func64,Tryz.ntmps64
 go_wp2_with (first
  | (at_builtin;refine wpList_append_own _ rfl _ _ 25 rfl w.heap.size 99 i0 (.int .u32 0) 1 4 Tryz.underlying25 hi hz0 hz1 hz2 rfl (by decide) _ _ _ rfl HO.o x len cap (zs.map (.int .u32)) rfl ?c0 ?c1 ?c2 ?c3 ?c4 HSZ.o ?_)
  | go_in)
 case c0=>simp [hz]
 case c1=>
  intro j u hu;rcases hr with h | ⟨b,off,h,hc⟩
  ·rw [List.getElem?_eq_none (by simp;omega)] at hu;cases hu
  ·obtain rfl:=Option.some.inj h;by_cases hj:j<zs.length
   ·simp [List.getElem?_eq_getElem hj] at hu;subst hu;have:=hc j (by omega);rw [Addr.add_lit,World.cell?_alloc_lt w _ _ (World.block_lt_of_cell? w _ this)];simpa [List.getD,List.getElem?_eq_getElem hj] using this
   ·rw [List.getElem?_eq_none (by simp;omega)] at hu;cases hu
 case c2=>intro u hu;obtain ⟨z,_,rfl⟩:=List.mem_map.1 hu;rfl
 case c3=>unfold maxLen;omega
 case c4=>omega
 intro v' w' hown hg _;have HW:Hid (Ws w' w.heap.size v' zs):=by show w'.ownsRow _ _ _ _ _ _;rw [hz];simpa using hown
 have HG:Hid (Below w.heap.size w w'):=own_bel HO.o hg ((Below.refl _ _).alloc (Nat.le_refl _) _) (Nat.le_refl _) HSZ.o;clear hown hg;go_wp2;go_ret;exact GaveU.mk HW.o HG.o
theorem step_sli {P:Program} {T S:TypeId} (hP:SliT P T S) {w:World} {ops:Array Oper} {o:Oper} {a:Act} {K:Act→World→Prop} {Q:Exit→Act→World→Prop} {E:Prop} (hgd:o.guard=none) (s x:Operand)
  (ho:o.op = .call { callee:= .builtin .append,args:=#[s,x],argTypes:=#[S,S] })
  (base G:Nat) (v:Value) (l:List Sli) (r:Sli) (hs:a.eval s=v) (hx:a.eval x = .slice (some ⟨G,0,none⟩) 1 1) (hv:Lr T w base v l) (hu:w.cell? ⟨G,0,none⟩=some r.v) (hn:l.length≤1000000) (hbase:base≤w.heap.size)
  (h:∀ v' w',Lr T w' base v' (l++[r])→w.grownBy w' v.ownBlock→(v'.ownBlock=v.ownBlock∨v'.ownBlock=some w.heap.size)→K (a.put o.dst v') w'):if Region.wanted o (yielded ops a.tmps)=true then Oper.wp P o a w K Q else E:=by
 have hw:Region.wanted o (yielded ops a.tmps)=true:=by simp [Region.wanted,hgd]
 rw [if_pos hw];obtain ⟨i0,hi,hz0,hz1,hz2⟩:=info_parts hP.info
 obtain ⟨v',w',hr,h2,h3,_,h4⟩:=run_append_own_at (P:=P) w base S o.type T i0 (sl0.v) 1 24 hP.under hi hz0 hz1 hz2 rfl (by decide) v l.length (cellsR l) hv ⟨G,0,none⟩ 1 1 (cellsR [r]) rfl (by
  intro j u hj
  match j,hj with
  | 0,hj=>simp [cellsR] at hj;subst hj;simpa [Addr.add] using hu
  | j+1,hj=>simp [cellsR] at hj) (oneR [r]) (by unfold maxLen;omega) (by omega) hbase
 unfold Oper.wp execOp;simp only [ho,resolve,invoke,builtin,Sem.run_bind,Sem.run_pure,Result.andThen_ok,List.map_toArray,List.map_cons,List.map_nil,hs,hx,hr];refine h v' w' ?_ h3 h4;unfold Lr;rw [List.length_append];unfold cellsR at *;rw [List.map_append];exact h2
theorem wp_letOne {P:Program} {o:Oper} {a:Act} {w:World} {K:Act→World→Prop} {Q:Exit→Act→World→Prop} (ty:TypeId) (x y:Operand) (ho:o.op = .store ty x y)
  (g:Nat) (hx:a.eval x = .pointer (some ⟨g,0,none⟩)) (v:Value) (hy:a.eval y=v) (hv:v.cells=#[v]) (hi:(P.info? ty).map (·.size)=some 1) (h1:v.oneCell'=true)
  (u:Value) (t:TypeId) (hB:Blk w g #[u] t) (hd:o.dst=none)
  (h:∀ W,Upd w W g #[v] t→K a W):o.wp P a w K Q:=by
 have hs:=run_storeVar_let (P:=P) (w:=w) (g:=g) (off:=0) (ty:=ty) (t:=t) (v:=v) (cells:=#[v]) (cs:=#[u]) hv (by simpa using hi) (by simpa using h1) hB (by simp);have hu:=upd_cells g t [v] 0 w #[u] hB;unfold Oper.wp execOp;simp only [ho,hx,hy,Instr.storeAt,Instr.sureAddr,Sem.run_bind,Sem.run_pure,Result.andThen_ok,hs];have:=h _ hu;have e:a.put o.dst undef=a:=by rw [hd];rfl
 rw [← e] at this;exact this
structure Box (w:World) (L:Nat) (V:Value) (sl:List Sli) (zs:List (List Int)) (W:World):Prop where
 blk:Blk W L #[V] 104
 row:Lr 25 W (L+1) V sl
 recs:Recs W V.ownBlock sl zs
 new:∀ i,i<sl.length→((sl.getD i sl0).n≤100000∧(sl.getD i sl0).n≤(sl.getD i sl0).c∧((sl.getD i sl0).a=none→(sl.getD i sl0).c=0))∧∀ x,(sl.getD i sl0).a=some x→L+1≤x.block
 bel:Below L w W
theorem Box.next {w:World} {L:Nat} {V:Value} {sl:List Sli} {zs:List (List Int)} {W W':World} (h:Box w L V sl zs W) (hb:Below W.heap.size W W'):Box w L V sl zs W':=
 ⟨h.blk.next hb,h.row.next hb,h.recs.below hb,h.new,h.bel.trans (hb.mono (Nat.le_of_lt h.blk.lt))⟩
theorem Box.far {w:World} {L:Nat} {V:Value} {sl:List Sli} {zs:List (List Int)} {W:World} (h:Box w L V sl zs W):some L≠V.ownBlock:=own_far h.row (Nat.lt_succ_self _)
theorem Box.kept {w:World} {L:Nat} {V:Value} {sl:List Sli} {zs:List (List Int)} {W W':World} (h:Box w L V sl zs W) (hg:W.grownBy W' V.ownBlock):Blk W' L #[V] 104:=by
 have h1:W.heap[L]?=_:=h.blk;show W'.heap[L]?=_;rw [hg.block L h.blk.lt h.far];exact h1
theorem lr_upd {T t:TypeId} {w W:World} {L:Nat} {cs:Array Value} {v:Value} {l:List Sli} (h:Lr T w (L+1) v l) (hU:Upd w W L cs t):Lr T W (L+1) v l:=by
 refine ⟨h.1,?_⟩;rcases h.2 with hn | ⟨g,cap,cur,hv,hg,hc,rest⟩
 ·exact .inl hn
 ·exact .inr ⟨g,cap,cur,hv,hg,hU.keep hc (by omega),rest⟩
theorem snoc_at (sl:List Sli) (r:Sli) (i:Nat) (hi:i<(sl++[r]).length):(i<sl.length∧(sl++[r]).getD i sl0=sl.getD i sl0)∨(i=sl.length∧(sl++[r]).getD i sl0=r):=by
 by_cases h1:i<sl.length
 ·exact .inl ⟨h1,by simp [List.getD,List.getElem?_append_left h1]⟩
 ·have hi':i=sl.length:=by simp at hi;omega
  exact .inr ⟨hi',by rw [hi'];simp [List.getD]⟩
theorem box_step {w U W3 W4:World} {L:Nat} {V v:Value} {sl:List Sli} {r:Sli} {zs:List (List Int)} {R:List Int} (hB:Box w L V sl zs U) {g off:Nat} (ha:r.a=some ⟨g,off,none⟩) (hg:g<U.heap.size) (hne:some g≠V.ownBlock) (hL:L+1≤g) (hrow:RowU U r.a r.n R) (hn:r.n≤100000∧r.n≤r.c∧(r.a=none→r.c=0))
  (h3:Lr 25 W3 (L+1) v (sl++[r])) (hgr:U.grownBy W3 V.ownBlock) (ho:v.ownBlock=V.ownBlock∨v.ownBlock=some U.heap.size) (hU:Upd W3 W4 L #[v] 104):Box w L v (sl++[r]) (zs++[R]) W4:=by
 have hnew:∀ i,i<(sl++[r]).length→(((sl++[r]).getD i sl0).n≤100000∧((sl++[r]).getD i sl0).n≤((sl++[r]).getD i sl0).c∧(((sl++[r]).getD i sl0).a=none→((sl++[r]).getD i sl0).c=0))∧∀ x,((sl++[r]).getD i sl0).a=some x→L+1≤x.block:=fun i hi=>by
  rcases snoc_at sl r i hi with ⟨h1,e⟩ | ⟨_,e⟩
  ·rw [e];exact hB.new i h1
  ·rw [e];refine ⟨hn,fun x hx=>?_⟩;rw [ha] at hx;cases hx;exact hL
 have hrc:Recs W3 v.ownBlock (sl++[r]) (zs++[R]):=(hB.recs.snoc (s:=r) (z:=R) ⟨⟨g,off,ha,hg,hne⟩,hrow⟩).grown hgr ho;refine ⟨hU.blk,lr_upd h3 hU,⟨hrc.1,fun i hi=>?_⟩,hnew,?_⟩
 ·obtain ⟨⟨b,o,e1,e2,e3⟩,e4⟩:=hrc.2 i hi;have hLb:=(hnew i hi).2 _ e1;refine ⟨⟨b,o,e1,by rw [hU.size];exact e2,e3⟩,e4.1,?_⟩;rcases e4.2 with h0 | ⟨b',o',e5,hc⟩
  ·exact .inl h0
  ·rw [e1] at e5;cases e5;exact .inr ⟨b,o,e1,fun j hj=>(hU.cell ⟨b,o+j,none⟩ (by show b≠L;simp only at hLb;omega) rfl).trans (hc j hj)⟩
 ·refine hU.bel _ _ (Nat.le_refl _) ?_;exact own_bel hB.row hgr hB.bel (Nat.le_succ _) (Nat.le_of_lt hB.blk.lt)
theorem Box.reads {w:World} {L:Nat} {V:Value} {sl:List Sli} {zs:List (List Int)} {W:World} (h:Box w L V sl zs W):∃ a cap,V = .slice a zs.length cap∧ReadsF W L a zs.length zs:=by
 obtain ⟨a,cap,hv⟩:=h.row.len;have hl:=h.recs.1;refine ⟨a,cap,by rw [← hl];exact hv,rfl,?_⟩;by_cases h0:zs.length=0
 ·exact .inl h0
 ·obtain ⟨g,cap2,hv2,hge,lg,_,hc⟩:=h.row.row (by rw [hl];omega);rw [hv] at hv2;injection hv2 with ea _ _
  refine .inr ⟨g,0,ea,by omega,lg,fun i hi=>?_⟩;have hi':i<sl.length:=by rw [hl];exact hi
  refine ⟨sl.getD i sl0,by rw [Nat.zero_add];exact hc i hi',(h.recs.2 i hi').2,(h.new i hi').1,fun x hx=>?_⟩;have:=(h.new i hi').2 x hx;omega
end disk
namespace book
open Go.RowKit
def leftE (v:Ev):Ev:=if v.kd=2 then ⟨0,0,0,0,0,0,0,0,0,0,0,v.ow,v.bp⟩ else if v.kd=3 then ⟨0,0,0,0,v.te,v.de,v.fe,v.pr,v.ch,0,0,v.ow,v.bp⟩ else if v.kd=4 then ⟨0,0,v.mo,0,v.te,v.de,v.fe,v.pr,v.ch,v.un,0,v.ow,v.bp⟩ else if v.kd=5 then ⟨0,0,v.mo,v.id,v.te,v.de,v.fe,v.pr,v.ch,v.un,v.tg,0,0⟩ else ⟨0,0,v.mo,v.id,v.te,v.de,v.fe,v.pr,v.ch,v.un,v.tg,v.ow,v.bp⟩
def Numd (id tg:Int):Prop:=(1≤id∧id≤1048575)∧0≤tg∧tg≤65535
def Unt (un:Int):Prop:=1≤un∧un≤2097151
def Mon (mo:Int):Prop:=0≤mo∧mo≤2399
def Mony (te de fe pr ch:Int):Prop:=(1≤te∧te≤100000000)∧((0≤de∧de≤100000000)∧(0≤fe∧fe≤100000000)∧(0≤pr∧pr≤100000000)∧0≤ch∧ch≤100000000)∧de+fe+pr+ch=te
def Dbt (ow bp:Int):Prop:=(1≤ow∧ow≤1000000000)∧0≤bp∧bp≤10000
def KindR (v:Ev):Prop:=v.kd=1∨(v.kd=2∧Mon v.mo∧Numd v.id v.tg∧Unt v.un∧Mony v.te v.de v.fe v.pr v.ch)∨(v.kd=3∧Mon v.mo∧Numd v.id v.tg∧Unt v.un)∨(v.kd=4∧Numd v.id v.tg)∨(v.kd=5∧Dbt v.ow v.bp)
theorem may_iff (v:Ev):EMay v↔(0≤v.me∧v.me≤49)∧KindR v∧leftE v=ev0:=by
 obtain ⟨kd,me,mo,id,te,de,fe,pr,ch,un,tg,ow,bp⟩:=v;unfold EMay KindR leftE ev0 Numd Unt Mon Mony Dbt;simp only;by_cases h1:kd=1
 ·subst h1;simp
 by_cases h2:kd=2
 ·subst h2;simp;intro _ _;constructor <;> intro h <;> omega
 by_cases h3:kd=3
 ·subst h3;simp;intro _ _;constructor <;> intro h <;> omega
 by_cases h4:kd=4
 ·subst h4;simp;intro _ _;constructor <;> intro h <;> omega
 by_cases h5:kd=5
 ·subst h5;simp;intro _ _;constructor <;> intro h <;> omega
 constructor
 ·rintro ⟨_,h | h | h⟩
  ·exact absurd h.1 h1
  ·exact absurd h.1 h5
  ·have:=h.1;omega
 ·rintro ⟨_,h | h | h | h | h,_⟩
  ·exact absurd h h1
  ·exact absurd h.1 h2
  ·exact absurd h.1 h3
  ·exact absurd h.1 h4
  ·exact absurd h.1 h5
theorem kind_2 {v:Ev} (h:v.kd=2):KindR v↔Mon v.mo∧Numd v.id v.tg∧Unt v.un∧Mony v.te v.de v.fe v.pr v.ch:=by simp [KindR,h]
theorem kind_3 {v:Ev} (h:v.kd=3):KindR v↔Mon v.mo∧Numd v.id v.tg∧Unt v.un:=by simp [KindR,h]
theorem kind_4 {v:Ev} (h:v.kd=4):KindR v↔Numd v.id v.tg:=by simp [KindR,h]
theorem kind_5 {v:Ev} (h:v.kd=5):KindR v↔Dbt v.ow v.bp:=by simp [KindR,h]
def YN (w:World) (P:Prop) (e:Ending) (w':World):Prop:=∃ B,e = .returned (.bool B)∧(B=true↔P)∧Below w.heap.size w w'
theorem YN.yes {w w':World} {P:Prop} (h:P) (hb:Below w.heap.size w w'):YN w P (.returned (.bool true)) w':=⟨true,rfl,⟨fun _=>h,fun _=>rfl⟩,hb⟩
theorem YN.no {w w':World} {P:Prop} (h:¬ P) (hb:Below w.heap.size w w'):YN w P (.returned (.bool false)) w':=⟨false,rfl,⟨fun q=>(by cases q),fun q=>absurd q h⟩,hb⟩
end book
namespace acc
open tar (Du du0 Came RowD Ld PairT)
open Go.RowKit
structure Chg (w W:World) (g:Nat):Prop where
 os:W.os=w.os
 tape:W.tape=w.tape
 output:W.output=w.output
 size:w.heap.size≤W.heap.size
 oth:∀ k,k<w.heap.size→k≠g→W.heap[k]?=w.heap[k]?
theorem Chg.refl (w:World) (g:Nat):Chg w w g:=⟨rfl,rfl,rfl,Nat.le_refl _,fun _ _ _=>rfl⟩
theorem Chg.trans {w W V:World} {g:Nat} (h:Chg w W g) (h':Chg W V g):Chg w V g:=
 ⟨h'.os.trans h.os,h'.tape.trans h.tape,h'.output.trans h.output,Nat.le_trans h.size h'.size,fun k hk hne=>(h'.oth k (Nat.lt_of_lt_of_le hk h.size) hne).trans (h.oth k hk hne)⟩
theorem Chg.of {w W:World} {g:Nat} (hb:Below w.heap.size w W):Chg w W g:=⟨hb.os,hb.tape,hb.output,hb.size,fun k hk _=>hb.block k hk⟩
theorem Chg.upd {w W:World} {g:Nat} {cs:Array Value} {t:TypeId} (hu:Upd w W g cs t):Chg w W g:=by
 have h:=hu.bel 0 w (Nat.zero_le _) (Below.refl _ _);exact ⟨h.os,h.tape,h.output,h.size,fun k _ hne=>hu.oth k hne⟩
theorem Chg.keep {w W:World} {g G:Nat} {cs:Array Value} {t:TypeId} (h:Chg w W g) (hb:Blk w G cs t) (hne:G≠g):Blk W G cs t:=by
 have hl:=hb.lt;unfold Blk at *;rw [h.oth G hl hne];exact hb
theorem Chg.bel {w W:World} {g:Nat} (h:Chg w W g) (hl:g≤w.heap.size):Below g w W:=
 ⟨h.os,h.tape,h.output,h.size,fun k hk=>h.oth k (by omega) (by omega)⟩
def Far (p:Option Addr) (len g:Nat):Prop:=0<len→∀ y,p=some y→y.block≠g
theorem row_chg {w W:World} {g:Nat} {p:Option Addr} {len:Nat} {l:List Du} (h:RowD w p len l) (hc:Chg w W g) (hf:Far p len g):RowD W p len l:=by
 refine ⟨h.1,?_⟩;rcases Nat.eq_zero_or_pos len with h0 | h0
 ·exact .inl h0
 ·obtain ⟨b,off,rfl,hb,hcs⟩:=h.at h0;have hne:b≠g:=hf h0 _ rfl;refine .inr ⟨b,off,rfl,fun i hi=>?_⟩;have e:∀ o,W.cell? ⟨b,o,none⟩=w.cell? ⟨b,o,none⟩:=fun o=>by simp only [World.cell?,hc.oth b hb hne]
  rw [e,e];exact hcs i hi
theorem came_chg {w W:World} {g:Nat} {p:Option Addr} {len cap:Nat} {l:List Du} (h:Came w p len cap l) (hc:Chg w W g) (hf:Far p len g):Came W p len cap l:=⟨row_chg h.row hc hf,h.nil,h.room,h.bytes,h.wf⟩
theorem fresh_far {w:World} {g:Nat} {p:Option Addr} {len cap:Nat} {l:List Du} (h:deb.Fresh w (g+1) p len cap l):Far p len g:=fun hn y hy=>by have:=h.new hn y hy;omega
theorem fresh_chg {w W:World} {g:Nat} {p:Option Addr} {len cap:Nat} {l:List Du} (h:deb.Fresh w (g+1) p len cap l) (hc:Chg w W g):deb.Fresh W (g+1) p len cap l:=⟨came_chg h.came hc (fresh_far h),h.new⟩
def wcs (x:Ac) (b:Bi) (p:Option Addr) (len cap:Nat):Array Value:=#[zI x.me,zI x.rv,zI x.nx,zI x.mo,zI x.bo,zI x.fr,.slice p len cap,zI b.id,zI b.te,zI b.de,zI b.fe,zI b.pr,zI b.ch,zI b.un]
def WPost (w:World) (g:Nat) (R:Ac→Bi→Int→Prop) (e:Ending) (w':World):Prop:=∃ y b q n c f,e = .returned (zI f)∧R y b f∧Blk w' g (wcs y b q n c) 252∧deb.Fresh w' (g+1) q n c y.ds∧Below g w w'
def DPost (w:World) (g:Nat) (R:Ac→Bi→Int→Prop) (e:Ending) (w':World):Prop:=∃ y b q n c f,e = .returned (zI f)∧R y b f∧Blk w' g (wcs y b q n c) 252∧deb.Fresh w' (g+1) q n c y.ds∧Chg w w' g
theorem DPost.w {w w':World} {g:Nat} {R:Ac→Bi→Int→Prop} {e:Ending} (h:DPost w g R e w') (hl:g≤w.heap.size):WPost w g R e w':=by
 obtain ⟨y,b,q,n,c,f,h1,h2,h3,h4,h5⟩:=h;exact ⟨y,b,q,n,c,f,h1,h2,h3,h4,h5.bel hl⟩
def Or0 (Is:Ac→Bi→Int→Prop) (y:Ac) (b:Bi) (f:Int):Prop:=(f≠0∧Is ac0 bi0 f)∨(f=0∧Is y b 0)
theorem blk_new4 (w:World) (o p q r:Obj) (cs:Array Value) (t:TypeId):Blk (((((w.alloc o).alloc p).alloc q).alloc r).alloc (.cells cs t)) (w.heap.size+1+1+1+1) cs t:=by
 have h:=Blk.new ((((w.alloc o).alloc p).alloc q).alloc r) cs t
 rwa [show ((((w.alloc o).alloc p).alloc q).alloc r).heap.size=w.heap.size+1+1+1+1 by simp] at h
theorem blk_new5 (w:World) (o p q r s:Obj) (cs:Array Value) (t:TypeId):Blk ((((((w.alloc o).alloc p).alloc q).alloc r).alloc s).alloc (.cells cs t)) (w.heap.size+1+1+1+1+1) cs t:=by
 have h:=Blk.new (((((w.alloc o).alloc p).alloc q).alloc r).alloc s) cs t
 rwa [show (((((w.alloc o).alloc p).alloc q).alloc r).alloc s).heap.size=w.heap.size+1+1+1+1+1 by simp] at h
theorem wp_letOp1 {P:Program} {o:Oper} {a:Act} {w:World} {K:Act→World→Prop} {Q:Exit→Act→World→Prop} (ty:TypeId) (x y:Operand) (ho:o.op = .store ty x y)
  (g off:Nat) (hx:a.eval x = .pointer (some ⟨g,off,none⟩)) (v:Value) (hy:a.eval y=v) (hv:v.cells=#[v]) (hi:(P.info? ty).map (·.size)=some 1) (h1:v.oneCell'=true)
  (cs:Array Value) (t:TypeId) (hB:Blk w g cs t) (hin:off<cs.size) (hd:o.dst=none)
  (h:∀ W,Upd w W g (cs.setIfInBounds off v) t→K a W):o.wp P a w K Q:=by
 have hs:=run_storeVar_let (P:=P) (w:=w) (g:=g) (off:=off) (ty:=ty) (t:=t) (v:=v) (cells:=#[v]) (cs:=cs) hv (by simpa using hi) (by simpa using h1) hB (by simp;omega);have hu:=upd_cells g t [v] off w cs hB;unfold Oper.wp execOp;simp only [ho,hx,hy,Instr.storeAt,Instr.sureAddr,Sem.run_bind,Sem.run_pure,Result.andThen_ok,hs];have:=h _ hu;have e:a.put o.dst undef=a:=by rw [hd];rfl
 rw [← e] at this;exact this
end acc
namespace token
def hasI (lo hi n:Int):Bool:=decide (lo≤n) && decide (n≤hi)
def amLo (c:Int):Int:=if c=0 then 1 else if c=1 then 0 else if c=2 then 1 else 0
def amHi (c:Int):Int:=if c=0 then 2097151 else if c=1 then 0 else if c=2 then 15 else 0
def flawT (c i a t:Int):Int:=if c<0∨3<c then 9 else if hasI 1 1048575 i && (hasI (amLo c) (amHi c) a && hasI 0 65535 t) then 0 else 2
theorem flawT_class {c i a t:Int} (h:c<0∨3<c):flawT c i a t=9:=by unfold flawT;rw [if_pos h]
theorem flawT_in {c i a t:Int} (h:¬ (c<0∨3<c)):flawT c i a t=if hasI 1 1048575 i && (hasI (amLo c) (amHi c) a && hasI 0 65535 t) then 0 else 2:=by unfold flawT;rw [if_neg h]
theorem flaw_tok {k:Tok}:flawT k.c k.i k.a k.t=0↔k.ok:=by
 rw [← okB_ok];unfold flawT okB hasI amLo amHi;rcases (by omega:k.c=0∨k.c=1∨k.c=2∨k.c=3∨4≤k.c) with h | h | h | h | h
 ·simp [h];omega
 ·simp [h];omega
 ·simp [h];omega
 ·simp [h];omega
 ·have h1:(3:Int)<(k.c:Int):=by omega
  have h2:¬ k.c≤3:=by omega
  simp [h1,h2]
open Go.RowKit
theorem Eight.cell {w:World} {g:Nat} {a0 a1 a2 a3 a4 a5 a6 a7:Int} (h:Eight w g a0 a1 a2 a3 a4 a5 a6 a7) :
  w.cell? ⟨g,0,none⟩=some (zI a0)∧w.cell? ⟨g,1,none⟩=some (zI a1)∧w.cell? ⟨g,2,none⟩=some (zI a2)∧w.cell? ⟨g,3,none⟩=some (zI a3) ∧
  w.cell? ⟨g,4,none⟩=some (zI a4)∧w.cell? ⟨g,5,none⟩=some (zI a5)∧w.cell? ⟨g,6,none⟩=some (zI a6)∧w.cell? ⟨g,7,none⟩=some (zI a7):=by
 obtain ⟨t,fr,h⟩:=h;simp [World.cell?,h]
theorem has_any (lo hi n:Int) (w:World) :
  Calls Tryz.prog 128 #[.agg #[zI lo,zI hi],zI n] w fun e w'=>e = .returned (.bool (hasI lo hi n))∧Below w.heap.size w w':=by
 have hb:Below w.heap.size w (w.alloc (.cells #[zI lo,zI hi] 221)):=(Below.refl _ _).alloc (Nat.le_refl _) _;by_cases h:lo≤n
 ·have e:hasI lo hi n=decide (n≤hi):=by simp [hasI,h]
  rw [e];go_enter Tryz.func128,Tryz.ntmps128;go_wp2;go_ret;exact ⟨rfl,hb⟩
 ·have e:hasI lo hi n=false:=by simp [hasI,h]
  have h':n<lo:=by omega
  rw [e];go_enter Tryz.func128,Tryz.ntmps128;go_wp2;go_ret;exact ⟨rfl,hb⟩
end token
namespace words
open Go.RowKit
theorem sh_lt (v:Nat) (k:Int) (hv:v<2 ^ 64):sh v k<2 ^ 64:=by
 unfold sh;split
 ·exact Nat.lt_of_le_of_lt (Nat.div_le_self _ _) hv
 ·exact Nat.mod_lt _ (by decide)
theorem ones_lt (n:Nat) (h:n≤64):onesN n<2 ^ 64:=by
 unfold onesN;have:=Nat.pow_le_pow_right (show 0<2 by decide) h;have h2:0<2 ^ n:=Nat.two_pow_pos _;omega
theorem idx0 (x y z:Int) (w:World):(Instr.index 131 (.agg #[.int .u32 x,.int .u32 y,.int .u32 z]) (zI 0)).run Tryz.prog w = .ok (.int .u32 x) w:=by kernel_rfl
theorem idx1 (x y z:Int) (w:World):(Instr.index 131 (.agg #[.int .u32 x,.int .u32 y,.int .u32 z]) (zI 1)).run Tryz.prog w = .ok (.int .u32 y) w:=by kernel_rfl
theorem idx2 (x y z:Int) (w:World):(Instr.index 131 (.agg #[.int .u32 x,.int .u32 y,.int .u32 z]) (zI 2)).run Tryz.prog w = .ok (.int .u32 z) w:=by kernel_rfl
theorem bits_any (a b c lo n:Nat) (w:World) (ha:a<2 ^ 32) (hb:b<2 ^ 32) (hc:c<2 ^ 32) (n0:1≤n) (n1:n≤64) (hl:lo+n≤96) :
  Calls Tryz.prog 186 #[.agg #[.int .u32 (a:Int),.int .u32 (b:Int),.int .u32 (c:Int)],zI (lo:Int),zI (n:Int)] w fun e w'=>e = .returned (.tuple #[.int .u64 (bitsN a b c lo n:Nat),zI 0])∧Below w.heap.size w w':=by
 have a1:(a:Int)<4294967296:=by omega
 have b1:(b:Int)<4294967296:=by omega
 have c1:(c:Int)<4294967296:=by omega
 have HB:Hid (Below w.heap.size w (w.alloc (.cells #[.int .u32 (a:Int),.int .u32 (b:Int),.int .u32 (c:Int)] 131))):=(Below.refl _ w).alloc (Nat.le_refl _) _;have hE:bitsN a b c lo n=(sh a (-(lo:Int)) ||| sh b (32 - (lo:Int)) ||| sh c (64 - (lo:Int))) &&& onesN n:=by unfold bitsN;rw [Int.zero_sub]
 have HE:Hid (bitsN a b c lo n=(sh a (-(lo:Int)) ||| sh b (32 - (lo:Int)) ||| sh c (64 - (lo:Int))) &&& onesN n):=hE;clear hE;have i0:=idx0 (a:Int) (b:Int) (c:Int);have i1:=idx1 (a:Int) (b:Int) (c:Int);have i2:=idx2 (a:Int) (b:Int) (c:Int);go_enter Tryz.func186,Tryz.ntmps186;go_wp2_with fail;refine (isField_yes _ _ _ (by omega) (by omega) (by omega) (by omega)).mono ?_;rintro e wr ⟨rfl,rfl⟩;go_wp2_with fail;refine wp_loop_rounds 4 ?_;rw [rounds_succ];go_wp2_with fail;refine (shift_any a _ _ (by omega) (by omega) (by omega)).mono ?_;rintro e wr ⟨rfl,rfl⟩
 have o1:bits .or .u64 0 ((sh a (-(lo:Int)):Nat):Int)=((sh a (-(lo:Int)):Nat):Int):=by
  have:=or64 0 (sh a (-(lo:Int))) (by decide) (sh_lt _ _ (by omega));simpa using this
 have l0:sh a (-(lo:Int))<2 ^ 64:=sh_lt _ _ (by omega);generalize sh a (-(lo:Int))=s0 at *;go_wp2_with fail;rw [rounds_succ];go_wp2_with fail;refine (shift_any b _ _ (by omega) (by omega) (by omega)).mono ?_;rintro e wr ⟨rfl,rfl⟩;have l1:sh b (32 - (lo:Int))<2 ^ 64:=sh_lt _ _ (by omega);have o2:=or64 s0 (sh b (32 - (lo:Int))) l0 l1;have l01:=Nat.or_lt_two_pow l0 l1;clear o1;generalize sh b (32 - (lo:Int))=s1 at *;go_wp2_with fail;rw [rounds_succ];go_wp2_with fail;refine (shift_any c _ _ (by omega) (by omega) (by omega)).mono ?_;rintro e wr ⟨rfl,rfl⟩;have l2:sh c (64 - (lo:Int))<2 ^ 64:=sh_lt _ _ (by omega);have o3:=or64 (s0 ||| s1) (sh c (64 - (lo:Int))) l01 l2;have l02:=Nat.or_lt_two_pow l01 l2;clear o2;generalize sh c (64 - (lo:Int))=s2 at *;go_wp2_with fail;rw [rounds_succ];go_wp2_with fail;refine (ones_any n _ (by omega) (by omega)).mono ?_;rintro e wr ⟨rfl,rfl⟩;have ln:onesN n<2 ^ 64:=ones_lt n (by omega);have o4:=and64 (s0 ||| s1 ||| s2) (onesN n) l02 ln;clear o3;go_wp2_with fail;go_ret2;exact ⟨by rw [HE.o];rfl,HB.o⟩
end words
namespace vnd
open ora (Pr)
open cell (Wr RowW)
open Go.RowKit
theorem rowP_upd {w W:World} {g:Nat} {cs:Array Value} {T:TypeId} {p:Option Addr} {n:Nat} {l:List Pr} (h:ora.RowP w p n l) (hU:Upd w W g cs T) (hg:0<n→∀ y,p=some y→y.block≠g):ora.RowP W p n l:=by
 refine ⟨h.1,?_⟩;rcases h.2 with h0 | ⟨b,off,rfl,hc⟩
 ·exact .inl h0
 ·refine .inr ⟨b,off,rfl,fun i hi=>?_⟩;have hne:b≠g:=hg (by omega) _ rfl;obtain ⟨h0,h1,h2,h3⟩:=hc i hi;exact ⟨by rw [hU.cell _ hne rfl];exact h0,by rw [hU.cell _ hne rfl];exact h1,by rw [hU.cell _ hne rfl];exact h2,by rw [hU.cell _ hne rfl];exact h3⟩
theorem rowW_upd {w W:World} {g:Nat} {cs:Array Value} {T:TypeId} {p:Option Addr} {n:Nat} {l:List Wr} (h:RowW w p n l) (hU:Upd w W g cs T) (hg:0<n→∀ y,p=some y→y.block≠g):RowW W p n l:=by
 refine ⟨h.1,?_⟩;rcases h.2 with h0 | ⟨b,off,rfl,hc⟩
 ·exact .inl h0
 ·refine .inr ⟨b,off,rfl,fun i hi=>?_⟩;have hne:b≠g:=hg (by omega) _ rfl;rw [hU.cell _ hne rfl,hU.cell _ hne rfl];exact hc i hi
theorem rowP_lt {w:World} {p:Option Addr} {n:Nat} {l:List Pr} (h:ora.RowP w p n l):0<n→∀ y,p=some y→y.block<w.heap.size:=fun hn y hy=>by
 obtain ⟨b,off,h8,l8,_⟩:=h.at hn;rw [h8] at hy;cases hy;exact l8
end vnd
end Go.Proofs.YtnpblpbohcegoaaGreatDoor
