import Derived.Test.YtnpblpbohcegoaaGreatDoorVBNrs10
import Derived.Test.YtnpblpbohcegoaaGreatDoorVBNrs12
import Derived.Test.YtnpblpbohcegoaaGreatDoorVBNrs13
set_option linter.unusedVariables false
set_option linter.unusedSimpArgs false
set_option maxHeartbeats 4000000
set_option maxRecDepth 100000
namespace Go.Proofs.YtnpblpbohcegoaaGreatDoor
namespace vnd
open disk (RepIs AppIs May repD lenAt)
open book (Ev ev0 EMay evL evOf EncIs DecIs Cm cm0 So so0 BookIs FirstAt NoneAt Tells billOf soldOf)
open acc (Ac Tm Bi SellIs GrantIs RekeyIs OweIs)
open ora (Pr IssueIs)
open cell (Wr)
open rcp (Rc rc0)
open token (Tok fmtL)
def DecOk (z:List Int):Prop:=z.length=13∧EMay (evOf z)
theorem DecOk.zero {z:List Int} {v:Ev} {e:Int} (h:DecOk z) (hd:DecIs z v e):e=0∧v=evOf z:=by
 rcases hd with ⟨p,_⟩ | ⟨_,q,_⟩ | ⟨_,_,r,s⟩
 ·exact absurd h.1 p
 ·exact absurd h.2 q
 ·exact ⟨s,r⟩
theorem dec_ok {z:List Int} {v:Ev} (hd:DecIs z v 0):DecOk z∧v=evOf z:=by
 rcases hd with ⟨_,_,r⟩ | ⟨_,_,_,r⟩ | ⟨p,q,r,_⟩
 ·cases r
 ·cases r
 ·exact ⟨⟨p,q⟩,r⟩
theorem dec_no {z:List Int} {v:Ev} {e:Int} (hd:DecIs z v e) (h:e≠0):v=ev0:=by
 rcases hd with ⟨_,r,_⟩ | ⟨_,_,r,_⟩ | ⟨_,_,_,r⟩
 ·exact r
 ·exact r
 ·exact absurd r h
def KeptIs (c:List Int) (l:List Ev) (e:Int):Prop:=
 ∃ o x f,RepIs c o x f∧((f≠0∧l=[]∧e=f)∨(f=0∧(∀ j,j<o.length→DecOk (o.getD j []))∧l=o.map evOf∧e=0) ∨
  (f=0∧e≠0∧l=[]∧∃ k,k<o.length∧(∀ j,j<k→DecOk (o.getD j []))∧DecIs (o.getD k []) ev0 e))
theorem KeptIs.one {c:List Int} {l l':List Ev} {e e':Int} (h:KeptIs c l e) (h':KeptIs c l' e'):l=l'∧e=e':=by
 obtain ⟨o,x,f,hr,h⟩:=h;obtain ⟨o',x',f',hr',h'⟩:=h';obtain ⟨rfl,rfl,rfl⟩:=hr.one hr';rcases h with ⟨p,rfl,rfl⟩ | ⟨p,q,rfl,rfl⟩ | ⟨p,q,rfl,k,k1,k2,k3⟩ <;> rcases h' with ⟨p',rfl,rfl⟩ | ⟨p',q',rfl,rfl⟩ | ⟨p',q',rfl,k',k1',k2',k3'⟩ <;> first | exact ⟨rfl,rfl⟩ | contradiction | skip
 ·exact absurd ((q k' k1').zero k3').1 q'
 ·exact absurd ((q' k k1).zero k3).1 q
 ·rcases Nat.lt_trichotomy k k' with c | c | c
  ·exact absurd ((k2' k c).zero k3).1 q
  ·subst c;exact ⟨rfl,(k3.one k3').2⟩
  ·exact absurd ((k2 k' c).zero k3').1 q'
def LoadIs (t:Tm) (c:List Int) (bk:List Cm) (f:Int):Prop:=∃ l e,KeptIs c l e∧((e≠0∧bk=[]∧f=e)∨(e=0∧∃ a,BookIs t l bk a f))
theorem LoadIs.one {t:Tm} {c:List Int} {b b':List Cm} {f f':Int} (h:LoadIs t c b f) (h':LoadIs t c b' f'):b=b'∧f=f':=by
 obtain ⟨l,e,hk,h⟩:=h;obtain ⟨l',e',hk',h'⟩:=h';obtain ⟨rfl,rfl⟩:=hk.one hk';rcases h with ⟨p,rfl,rfl⟩ | ⟨p,a,q⟩ <;> rcases h' with ⟨p',rfl,rfl⟩ | ⟨p',a',q'⟩ <;> first | exact ⟨rfl,rfl⟩ | contradiction | exact ⟨(q.one q').1,(q.one q').2.2⟩
def KeepIs (c:List Int) (v:Ev) (ls:List Wr) (f:Int):Prop:=
 ∃ l e,KeptIs c l e∧((¬ l.length<120∧ls=[]∧f=16)∨(l.length<120∧∃ ws g,EncIs v ws g∧((g≠0∧ls=[]∧f=g)∨(g=0∧AppIs c ws ls f))))
def regE (me:Int):Ev:=⟨1,me,0,0,0,0,0,0,0,0,0,0,0⟩
def chaE (me ow bp:Int):Ev:=⟨5,me,0,0,0,0,0,0,0,0,0,ow,bp⟩
def tokE (kd me mo:Int) (l:Bi) (tg:Int):Ev:=⟨kd,me,mo,l.id,l.te,l.de,l.fe,l.pr,l.ch,l.un,tg,0,0⟩
def askE (kd me te mo:Int):Ev:=⟨kd,me,mo,0,te,0,0,0,0,0,0,0,0⟩
def RegIs (t:Tm) (c:List Int) (me:Int) (ls:List Wr) (f:Int):Prop:=
 ∃ bk g,LoadIs t c bk g∧((g≠0∧ls=[]∧f=g)∨(g=0∧¬ (0≤me∧me≤49)∧ls=[]∧f=2)∨(g=0∧(0≤me∧me≤49)∧¬ NoneAt bk me∧ls=[]∧f=21)∨(g=0∧(0≤me∧me≤49)∧NoneAt bk me∧KeepIs c (regE me) ls f))
def ChaIs (t:Tm) (c:List Int) (me ow bp:Int) (ls:List Wr) (f:Int):Prop:=
 ∃ bk g,LoadIs t c bk g∧((g≠0∧ls=[]∧f=g)∨(g=0∧NoneAt bk me∧ls=[]∧f=18)∨(g=0∧∃ k b h,FirstAt bk me k∧OweIs (bk.getD k cm0).a ⟨ow,bp⟩ b h∧((h≠0∧ls=[]∧f=h)∨(h=0∧KeepIs c (chaE me ow bp) ls f))))
def tokB (kd rv:Int) (l:Bi) (tg:Int):Tok:=if kd=4 then ⟨2,l.id.toNat,(rv+1).toNat,tg.toNat⟩ else ⟨0,l.id.toNat,l.un.toNat,tg.toNat⟩
def recB (kd rv me:Int) (l:Bi) (tg:Int):Rc:=⟨me,l.id,l.te,l.de,l.fe,l.pr,l.ch,l.un,fmtL (97*(tokB kd rv l tg).num)⟩
def Gone (ls:List Wr) (o':List Pr) (r:Rc) (f x:Int):Prop:=ls=[]∧o'=[]∧r=rc0∧f=x
def TagIs (kd rv me mo dr:Int) (c:List Int) (o:List Pr) (l:Bi) (ls:List Wr) (o':List Pr) (r:Rc) (f:Int):Prop:=
 ∃ o2 tg g,IssueIs o me rv ((tokB kd rv l 0).body:Int) dr o2 tg g∧((g≠0∧Gone ls o' r f g)∨(g=0∧∃ l2 g3,KeepIs c (tokE kd me mo l tg) l2 g3∧((g3≠0∧Gone ls o' r f g3)∨(g3=0∧ls=l2∧o'=o2∧r=recB kd rv me l tg∧f=0))))
def TokIs (kd:Int) (t:Tm) (c:List Int) (o:List Pr) (me te mo dr:Int) (ls:List Wr) (o':List Pr) (r:Rc) (f:Int):Prop:=
 ∃ bk g,LoadIs t c bk g∧((g≠0∧Gone ls o' r f g)∨(g=0∧NoneAt bk me∧Gone ls o' r f 18)∨(g=0∧∃ k b l h,FirstAt bk me k∧Tells t (bk.getD k cm0) (askE kd me te mo) b l h∧((h≠0∧Gone ls o' r f h)∨(h=0∧TagIs kd (bk.getD k cm0).a.rv me mo dr c o l ls o' r f))))
open book (Sees)
open cell (RowU)
open Go.RowKit
def LoadPost (w:World) (t:Tm) (c:List Int) (e:Ending) (w':World):Prop:=∃ p m cap xs bk f,e = .returned (.tuple #[.agg #[.slice p m cap],zI f])∧LoadIs t c bk f∧Sees w' p m xs bk∧m≤120∧Below w.heap.size w w'
structure Dk (w:World) (a:Option Addr) (n cap:Nat) (c:List Int):Prop where
 row:RowU w a n c
 nil:a=none→cap=0
 room:n≤cap
 bytes:n*4≤140737488351232
 wd:∀ x∈c,0≤x∧x<4294967296
theorem Dk.below {w w':World} {a:Option Addr} {n cap:Nat} {c:List Int} (h:Dk w a n cap c) (hb:Below w.heap.size w w'):Dk w' a n cap c:=⟨h.row.below hb,h.nil,h.room,h.bytes,h.wd⟩
open cell (RowW)
def WrGot (w:World) (R:List Wr→Int→Prop) (e:Ending) (w':World):Prop:=∃ p m cp ls f,e = .returned (.tuple #[.slice p m cp,zI f])∧R ls f∧RowW w' p m ls∧(∀ x,p=some x→w.heap.size≤x.block)∧m≤cp∧m≤100000∧Below w.heap.size w w'
def KvLoad:Prop:=∀ (W:World) (t:Tm) (pt:Option Addr) (lt ct:Nat) (a:Option Addr) (n cap:Nat) (c:List Int),acc.TCame W t pt lt ct→Dk W a n cap c→Calls Tryz.prog 15 #[t.v pt lt ct,.slice a n cap] W fun e w'=>LoadPost W t c e w'
end vnd
namespace token
open words
open Go.RowKit
theorem bits_wn (a b c lo n V:Nat) (w:World) (h:WN a b c V) (n0:1≤n) (n1:n≤64) (hl:lo+n≤96) :
  Calls Tryz.prog 186 #[.agg #[.int .u32 (a:Int),.int .u32 (b:Int),.int .u32 (c:Int)],zI (lo:Int),zI (n:Int)] w fun e w'=>e = .returned (.tuple #[.int .u64 (V / 2 ^ lo % 2 ^ n:Nat),zI 0])∧Below w.heap.size w w':=by
 have:=bits_any a b c lo n w h.a1 h.b1 h.c1 n0 n1 hl
 rwa [bits_num h.a1 h.b1 h.c1 n1,h.val] at this
theorem wrap_i (v:Nat) (h:v<9223372036854775808):IntKind.i64.wrap (v:Int)=(v:Int):=by rw [IntKind.wrap_i64];omega
end token
namespace acc
open tar (Du du0 Came RowD Ld PairT)
open Go.RowKit
structure Chg (w W:World) (g:Nat):Prop where
 os:W.os=w.os
 tape:W.tape=w.tape
 output:W.output=w.output
 size:w.heap.size≤W.heap.size
 oth:∀ k,k<w.heap.size→k≠g→W.heap[k]?=w.heap[k]?
theorem Chg.refl (w:World) (g:Nat):Chg w w g:=⟨rfl,rfl,rfl,Nat.le_refl _,fun _ _ _=>rfl⟩
theorem Chg.trans {w W V:World} {g:Nat} (h:Chg w W g) (h':Chg W V g):Chg w V g:=
 ⟨h'.os.trans h.os,h'.tape.trans h.tape,h'.output.trans h.output,Nat.le_trans h.size h'.size,fun k hk hne=>(h'.oth k (Nat.lt_of_lt_of_le hk h.size) hne).trans (h.oth k hk hne)⟩
theorem Chg.of {w W:World} {g:Nat} (hb:Below w.heap.size w W):Chg w W g:=⟨hb.os,hb.tape,hb.output,hb.size,fun k hk _=>hb.block k hk⟩
theorem Chg.upd {w W:World} {g:Nat} {cs:Array Value} {t:TypeId} (hu:Upd w W g cs t):Chg w W g:=by
 have h:=hu.bel 0 w (Nat.zero_le _) (Below.refl _ _);exact ⟨h.os,h.tape,h.output,h.size,fun k _ hne=>hu.oth k hne⟩
theorem Chg.keep {w W:World} {g G:Nat} {cs:Array Value} {t:TypeId} (h:Chg w W g) (hb:Blk w G cs t) (hne:G≠g):Blk W G cs t:=by
 have hl:=hb.lt;unfold Blk at *;rw [h.oth G hl hne];exact hb
theorem Chg.bel {w W:World} {g:Nat} (h:Chg w W g) (hl:g≤w.heap.size):Below g w W:=
 ⟨h.os,h.tape,h.output,h.size,fun k hk=>h.oth k (by omega) (by omega)⟩
def Far (p:Option Addr) (len g:Nat):Prop:=0<len→∀ y,p=some y→y.block≠g
theorem row_chg {w W:World} {g:Nat} {p:Option Addr} {len:Nat} {l:List Du} (h:RowD w p len l) (hc:Chg w W g) (hf:Far p len g):RowD W p len l:=by
 refine ⟨h.1,?_⟩;rcases Nat.eq_zero_or_pos len with h0 | h0
 ·exact .inl h0
 ·obtain ⟨b,off,rfl,hb,hcs⟩:=h.at h0;have hne:b≠g:=hf h0 _ rfl;refine .inr ⟨b,off,rfl,fun i hi=>?_⟩;have e:∀ o,W.cell? ⟨b,o,none⟩=w.cell? ⟨b,o,none⟩:=fun o=>by simp only [World.cell?,hc.oth b hb hne]
  rw [e,e];exact hcs i hi
theorem came_chg {w W:World} {g:Nat} {p:Option Addr} {len cap:Nat} {l:List Du} (h:Came w p len cap l) (hc:Chg w W g) (hf:Far p len g):Came W p len cap l:=⟨row_chg h.row hc hf,h.nil,h.room,h.bytes,h.wf⟩
theorem fresh_far {w:World} {g:Nat} {p:Option Addr} {len cap:Nat} {l:List Du} (h:deb.Fresh w (g+1) p len cap l):Far p len g:=fun hn y hy=>by have:=h.new hn y hy;omega
theorem fresh_chg {w W:World} {g:Nat} {p:Option Addr} {len cap:Nat} {l:List Du} (h:deb.Fresh w (g+1) p len cap l) (hc:Chg w W g):deb.Fresh W (g+1) p len cap l:=⟨came_chg h.came hc (fresh_far h),h.new⟩
def wcs (x:Ac) (b:Bi) (p:Option Addr) (len cap:Nat):Array Value:=#[zI x.me,zI x.rv,zI x.nx,zI x.mo,zI x.bo,zI x.fr,.slice p len cap,zI b.id,zI b.te,zI b.de,zI b.fe,zI b.pr,zI b.ch,zI b.un]
def WPost (w:World) (g:Nat) (R:Ac→Bi→Int→Prop) (e:Ending) (w':World):Prop:=∃ y b q n c f,e = .returned (zI f)∧R y b f∧Blk w' g (wcs y b q n c) 252∧deb.Fresh w' (g+1) q n c y.ds∧Below g w w'
def DPost (w:World) (g:Nat) (R:Ac→Bi→Int→Prop) (e:Ending) (w':World):Prop:=∃ y b q n c f,e = .returned (zI f)∧R y b f∧Blk w' g (wcs y b q n c) 252∧deb.Fresh w' (g+1) q n c y.ds∧Chg w w' g
theorem DPost.w {w w':World} {g:Nat} {R:Ac→Bi→Int→Prop} {e:Ending} (h:DPost w g R e w') (hl:g≤w.heap.size):WPost w g R e w':=by
 obtain ⟨y,b,q,n,c,f,h1,h2,h3,h4,h5⟩:=h;exact ⟨y,b,q,n,c,f,h1,h2,h3,h4,h5.bel hl⟩
def Or0 (Is:Ac→Bi→Int→Prop) (y:Ac) (b:Bi) (f:Int):Prop:=(f≠0∧Is ac0 bi0 f)∨(f=0∧Is y b 0)
theorem blk_new4 (w:World) (o p q r:Obj) (cs:Array Value) (t:TypeId):Blk (((((w.alloc o).alloc p).alloc q).alloc r).alloc (.cells cs t)) (w.heap.size+1+1+1+1) cs t:=by
 have h:=Blk.new ((((w.alloc o).alloc p).alloc q).alloc r) cs t
 rwa [show ((((w.alloc o).alloc p).alloc q).alloc r).heap.size=w.heap.size+1+1+1+1 by simp] at h
theorem blk_new5 (w:World) (o p q r s:Obj) (cs:Array Value) (t:TypeId):Blk ((((((w.alloc o).alloc p).alloc q).alloc r).alloc s).alloc (.cells cs t)) (w.heap.size+1+1+1+1+1) cs t:=by
 have h:=Blk.new (((((w.alloc o).alloc p).alloc q).alloc r).alloc s) cs t
 rwa [show (((((w.alloc o).alloc p).alloc q).alloc r).alloc s).heap.size=w.heap.size+1+1+1+1+1 by simp] at h
theorem wp_letOp1 {P:Program} {o:Oper} {a:Act} {w:World} {K:Act→World→Prop} {Q:Exit→Act→World→Prop} (ty:TypeId) (x y:Operand) (ho:o.op = .store ty x y)
  (g off:Nat) (hx:a.eval x = .pointer (some ⟨g,off,none⟩)) (v:Value) (hy:a.eval y=v) (hv:v.cells=#[v]) (hi:(P.info? ty).map (·.size)=some 1) (h1:v.oneCell'=true)
  (cs:Array Value) (t:TypeId) (hB:Blk w g cs t) (hin:off<cs.size) (hd:o.dst=none)
  (h:∀ W,Upd w W g (cs.setIfInBounds off v) t→K a W):o.wp P a w K Q:=by
 have hs:=run_storeVar_let (P:=P) (w:=w) (g:=g) (off:=off) (ty:=ty) (t:=t) (v:=v) (cells:=#[v]) (cs:=cs) hv (by simpa using hi) (by simpa using h1) hB (by simp;omega);have hu:=upd_cells g t [v] off w cs hB;unfold Oper.wp execOp;simp only [ho,hx,hy,Instr.storeAt,Instr.sureAddr,Sem.run_bind,Sem.run_pure,Result.andThen_ok,hs];have:=h _ hu;have e:a.put o.dst undef=a:=by rw [hd];rfl
 rw [← e] at this;exact this
end acc
namespace deb
open tar (Du du0 Came TwoPost)
open Go.RowKit
def KdRec:Prop:=∀ (W:World) (a:Option Addr) (len cap:Nat) (ls:List Du) (t bp:Int),Came W a len cap ls→(Lit.int .i64 t).wf=true→(Lit.int .i64 bp).wf=true→Calls Tryz.prog 164 #[.slice a len cap,zI t,zI bp] W fun e w'=>RecPost W ls t bp e w'
open tar (RowD Ld ErrPost PairT)
theorem ktotal:KdTotal:=by
 intro w a len cap ls hcame;have hr:=hcame.row;have HFA:Hid (Calls Tryz.prog 199 #[.slice a len cap] w fun e w'=>∃ f,e = .returned (zI f)∧FaultIs ls f∧Below w.heap.size w w'):=pcheck a len cap ls w hr hcame.most;have HOW:Hid (Mays ls→∀ W,Below w.heap.size w W→Calls Tryz.prog 200 #[.slice a len cap] W fun e w'=>e = .returned (zI (sumD ls))∧Below W.heap.size W w'):=fun hm W hW=>powed a len cap ls W (hr.below hW) hm;clear hcame hr;go_enter Tryz.func184,Tryz.ntmps184;go_wp2_with fail;refine HFA.o.mono ?_;rintro e w1 ⟨f,rfl,hf,hb1⟩;have HB1:Hid (Below w.heap.size w w1):=hb1;have HF:Hid (FaultIs ls f):=hf;clear hb1 HFA;by_cases h0:f=0
 ·subst h0;have hm:=hf.ok.1 rfl;have HO2:Hid (Calls Tryz.prog 200 #[.slice a len cap] w1 fun e w'=>e = .returned (zI (sumD ls))∧Below w1.heap.size w1 w'):=HOW.o hm w1 HB1.o;clear hf hm HOW;go_wp2_with fail;refine HO2.o.mono ?_;rintro e w2 ⟨rfl,hb2⟩;have HB2:=shB HB1 hb2;clear hb2 HO2;go_wp2_with fail;go_ret2;exact ⟨_,_,rfl,⟨HF.o,.inl ⟨rfl,rfl⟩⟩,HB2.o⟩
 ·have hne:(f != 0)=true:=by simpa using h0
  have HN:Hid (f≠0):=h0;clear hf h0 HOW;go_wp2_with fail;go_ret2;exact ⟨_,_,rfl,⟨HF.o,.inr ⟨HN.o,rfl⟩⟩,HB1.o⟩
end deb
namespace words
open Go.RowKit
theorem overStep_any (B M:Nat) (n x d:Int) (w:World) (hc:w.cell? ⟨B,0,none⟩=some (.int .u64 n)) (hf:w.frozen? ⟨B,0,none⟩=false) (hm:w.cell? ⟨M,0,none⟩=some (.int .u32 d)) (hBM:M≠B) (n0:0≤n) (n1:n<d) (x0:0≤x) (x1:x<4294967296) (d0:0<d) (d1:d<4294967296) :
  Calls Tryz.prog 134 #[.int .u32 x,.pointer (some ⟨B,0,none⟩),.pointer (some ⟨M,0,none⟩)] w fun e w'=>e = .returned (.int .u32 ((n*4294967296+x) / d))∧Acc w w' B (.int .u64 ((n*4294967296+x) % d)):=by
 have hA:Acc w w B (.int .u64 n):=Acc.refl hc hf;have HA:Hid (Acc w w B (.int .u64 n)):=hA;have hor:=or_words n x n0 (by omega) x0 x1;have q:=word_div d0 n0 n1 x0 x1;obtain ⟨q0,q1⟩:=q;have r0:0≤(n*4294967296+x) % d:=Int.emod_nonneg _ (by omega);have r1:(n*4294967296+x) % d<d:=Int.emod_lt_of_pos _ d0;clear hA;go_enter Tryz.func134,Tryz.ntmps134;go_wp2_with fail;go_ret;exact ⟨rfl,HA.o.set _⟩
theorem run_overStep (args:Array Value) (w:World):(callFunc 134 args).run Tryz.prog w = .ok (.enter 134 args) w:=by kernel_rfl
theorem over_any (x:W3) (d:Int) (w:World) (hx:x.ok) (d0:0<d) (d1:d<4294967296) :
  Calls Tryz.prog 88 #[wv x,.int .u32 d] w fun e w'=>e = .returned (.tuple #[wv (overW x d),.int .u32 (overR x d),zI 0])∧Below w.heap.size w w':=by
 obtain ⟨x0,x1,x2⟩:=x;obtain ⟨⟨h0,h0'⟩,⟨h1,h1'⟩,h2,h2'⟩:=hx;simp only at h0 h0' h1 h1' h2 h2';have hd0:(d == 0)=false:=by simp;omega
 go_enter Tryz.func88,Tryz.ntmps88;go_wp2_with fail;have hc:=trio_d w #[.int .u32 x0,.int .u32 x1,.int .u32 x2] (.int .u32 d) 99 (.int .u32 0) (.int .u32 0) (.int .u32 0) (.int .u64 0) 223;have hb3:=bel4 w (.cells #[.int .u32 x0,.int .u32 x1,.int .u32 x2] 131) (.cells #[.int .u32 d] 99) (.cells #[.int .u32 0,.int .u32 0,.int .u32 0] 131) (.cells #[.int .u64 0] 223);have e0:(0:Int)*4294967296+x2=x2:=by omega
 have r2:0≤x2 % d:=Int.emod_nonneg _ (by omega);have r2':x2 % d<d:=Int.emod_lt_of_pos _ d0;have r1:0≤((x2 % d)*4294967296+x1) % d:=Int.emod_nonneg _ (by omega);have r1':((x2 % d)*4294967296+x1) % d<d:=Int.emod_lt_of_pos _ d0
 refine (downward_any 134 #[.pointer (some ⟨w.heap.size+1+1+1,0,none⟩),.pointer (some ⟨w.heap.size+1,0,none⟩)] (w.heap.size+1+1+1) (.int .u64 0) (.int .u64 (x2 % d)) (.int .u64 (((x2 % d)*4294967296+x1) % d)) (.int .u64 (((((x2 % d)*4294967296+x1) % d)*4294967296+x0) % d)) x0 x1 x2
  (((((x2 % d)*4294967296+x1) % d)*4294967296+x0) / d) (((x2 % d)*4294967296+x1) / d) (x2 / d) _ (Acc.refl hc.1 hc.2.1) run_overStep
  (fun w' h=>by have:=overStep_any (w.heap.size+1+1+1) (w.heap.size+1) 0 x2 d w' h.cell h.free (h.keep hc.2.2.2 (by omega)) (by omega) (by omega) (by omega) h2 h2' d0 d1;rw [e0] at this;exact this)
  (fun w' h=>overStep_any _ _ _ _ _ w' h.cell h.free (h.keep hc.2.2.2 (by omega)) (by omega) r2 r2' h1 h1' d0 d1)
  (fun w' h=>overStep_any _ _ _ _ _ w' h.cell h.free (h.keep hc.2.2.2 (by omega)) (by omega) r1 r1' h0 h0' d0 d1)).mono ?_
 rintro e w1 ⟨he,hA⟩;have hR:Trio w1 (w.heap.size+1+1) (.int .u32 0) (.int .u32 0) (.int .u32 0):=hc.2.2.1.acc hA (by omega);have HB:Hid (Below w.heap.size w w1):=hA.below hb3 (by omega);have hcell:=hA.cell;have hsz:w.heap.size+1+1+1<w1.heap.size:=Nat.lt_of_lt_of_le hA.old hA.size;have z0:0≤((((x2 % d)*4294967296+x1) % d)*4294967296+x0) % d:=Int.emod_nonneg _ (by omega);have z1:((((x2 % d)*4294967296+x1) % d)*4294967296+x0) % d<d:=Int.emod_lt_of_pos _ d0
 have HE:Hid (Ending.returned (.tuple #[wv (overW ⟨x0,x1,x2⟩ d),.int .u32 (overR ⟨x0,x1,x2⟩ d),zI 0])=Ending.returned (.tuple #[.agg #[.int .u32 (((((x2 % d)*4294967296+x1) % d)*4294967296+x0) / d),.int .u32 (((x2 % d)*4294967296+x1) / d),.int .u32 (x2 / d)],.int .u32 (((((x2 % d)*4294967296+x1) % d)*4294967296+x0) % d),zI 0])):=by
  have:Ending.returned (.tuple #[wv (overW ⟨x0,x1,x2⟩ d),.int .u32 (overR ⟨x0,x1,x2⟩ d),zI 0])=Ending.returned (.tuple #[.agg #[.int .u32 (((((x2 % d)*4294967296+x1) % d)*4294967296+x0) / d),.int .u32 (((x2 % d)*4294967296+x1) / d),.int .u32 (x2 / d)],.int .u32 (((((x2 % d)*4294967296+x1) % d)*4294967296+x0) % d),zI 0]):=rfl;exact this
 clear hA hc hb3 e0 r1 r1' r2 r2';have HE2:Hid (e = .returned (.agg #[.int .u32 (((((x2 % d)*4294967296+x1) % d)*4294967296+x0) / d),.int .u32 (((x2 % d)*4294967296+x1) / d),.int .u32 (x2 / d)])):=he;clear he;generalize hz:((((x2 % d)*4294967296+x1) % d)*4294967296+x0) % d=z at hcell z0 z1 HE HE2;generalize hy0:((((x2 % d)*4294967296+x1) % d)*4294967296+x0) / d=y0 at HE HE2;generalize hy1:((x2 % d)*4294967296+x1) / d=y1 at HE HE2;generalize hy2:x2 / d=y2 at HE HE2;clear hz hy0 hy1 hy2;obtain rfl:=HE2.o;clear HE2;have hR:=hR.alloc (.cells #[.int .u32 y0,.int .u32 y1,.int .u32 y2] 131);have r0:=hR.c0;have r1:=hR.c1;have r2:=hR.c2;have g0:=hR.free 0;have g1:=hR.free 1;have g2:=hR.free 2;have HR:Hid (Trio (w1.alloc (.cells #[.int .u32 y0,.int .u32 y1,.int .u32 y2] 131)) (w.heap.size+1+1) (.int .u32 0) (.int .u32 0) (.int .u32 0)):=hR;clear hR;go_wp2_with fail;go_region
 all_goals go_wp2_with fail
 have RR:=((HR.o.set0 (.int .u32 y0)).set1 (.int .u32 y1)).set2 (.int .u32 y2);refine bodyPost_ret (v:= .tuple #[.agg #[.int .u32 y0,.int .u32 y1,.int .u32 y2],.int .u32 z,zI 0]) (by simp [results,Tryz.results88,RR.c0,RR.c1,RR.c2,go_sem]) rfl ⟨HE.o.symm,?_⟩;exact below_put (HB.o.alloc HB.o.size _) _ _ _ _ _ _ _ (by omega)
theorem eq1 (d:Nat) (a a':Int) (w:World):(Op.equalIn (d+1) 99 (.int .u32 a) (.int .u32 a')).run Tryz.prog w = .ok (a == a') w:=by
 simp [Op.equalIn,run_underlying Tryz.underlying99,go_sem]
theorem part0 (a b c:Int) (w:World):(part 99 #[.int .u32 a,.int .u32 b,.int .u32 c] 0).run Tryz.prog w = .ok (.int .u32 a) w:=by kernel_rfl
theorem part1 (a b c:Int) (w:World):(part 99 #[.int .u32 a,.int .u32 b,.int .u32 c] 1).run Tryz.prog w = .ok (.int .u32 b) w:=by kernel_rfl
theorem part2 (a b c:Int) (w:World):(part 99 #[.int .u32 a,.int .u32 b,.int .u32 c] 2).run Tryz.prog w = .ok (.int .u32 c) w:=by kernel_rfl
theorem eq3 (a b c a' b' c':Int) (w:World) :
  (Op.equalIn 10000 131 (.agg #[.int .u32 a,.int .u32 b,.int .u32 c]) (.agg #[.int .u32 a',.int .u32 b',.int .u32 c'])).run Tryz.prog w = .ok (a == a' && (b == b' && c == c')) w:=by
 obtain ⟨i0,hi⟩:∃ i,Tryz.prog.info? 99=some i:=⟨_,rfl⟩
 rw [show (10000:Nat)=9999+1 from rfl,run_equalIn_array (w:=w) 9999 _ _ Tryz.underlying131 hi,cells_word,show List.range 3=[0,1,2] from rfl];simp only [Op.eqItems,Sem.run_bind,Nat.mul_one,part0,Result.andThen_ok,show (9999:Nat)=9998+1 from rfl,eq1];by_cases ha:a=a'
 ·by_cases hb:b=b'
  ·by_cases hc:c=c'
   ·simp [part1,part2,Sem.run_bind,eq1,ha,hb,hc]
   ·simp [part1,part2,Sem.run_bind,eq1,ha,hb,hc]
  ·simp [part1,Sem.run_bind,eq1,ha,hb]
 ·simp [ha]
theorem eq3_same (x:W3) (w:World):(Op.equalIn 10000 131 (wv x) (wv x)).run Tryz.prog w = .ok true w:=by
 rw [eq3];simp
theorem eq3_other {x y:W3} (h:x≠y) (w:World):(Op.equalIn 10000 131 (wv x) (wv y)).run Tryz.prog w = .ok false w:=by
 rw [eq3];have:=agg_ne h
 congr 1
 simp;intro h1 h2 h3;exact this ⟨h1,h2,h3⟩
end words
namespace rct
open Go.RowKit
theorem met_tail {P:Program} {x:String × DataW Unit} {rest:List (String × DataW Unit)} {W:World} (h:laidMet P (x :: rest) W):laidMet P rest W:=by
 obtain ⟨ps,hv,hn,hc⟩:=h;obtain ⟨g',t',cs,fuel,p,q,hg',ht',hvar,hd,hr,rfl⟩:=hv;exact ⟨q,hr,(List.nodup_append.1 hn).2.1,fun b off hm=>hc b off (List.mem_append_right _ hm)⟩
end rct
end Go.Proofs.YtnpblpbohcegoaaGreatDoor
