import Derived.Test.YtoepgdhiepedeaaGreatDoorVVRys26
import Derived.Test.YtoepgdhiepedeaaGreatDoorVVRys30
set_option linter.unusedVariables false
set_option linter.unusedSimpArgs false
set_option maxHeartbeats 4000000
set_option maxRecDepth 100000
namespace Go.Proofs.YtoepgdhiepedeaaGreatDoor
namespace vnd
open disk (RepIs repD lenAt itD)
open book (Ev ev0 evOf ECame)
open Go.RowKit
theorem it_in(c:List Int)(k:Nat):∀z∈(disk.itD c k).1,∀x∈z,x∈c:=by
 induction k with
 |zero=>intro z a;simp[disk.itD] at a
 |succ k ih=>
  intro z a x b;by_cases h:0<disk.lenAt c (disk.itD c k).2
  ·rw[disk.it_live h] at a;rcases List.mem_append.1 a with a|a
   ·exact ih z a x b
   ·rw[List.mem_singleton.1 a] at b;exact List.mem_of_mem_drop (List.mem_of_mem_take b)
  ·have e:=disk.it_dead h 1;rw[e] at a;exact ih z a x b
variable{o:List (List Int)}
theorem rep_in{c:List Int}{x f:Int}(h:RepIs c o x f):∀z∈o,∀y∈z,y∈c:=by
 rcases h with⟨_,rfl,_⟩|⟨_,_,rfl,_⟩|⟨_,_,rfl,_⟩
 ·intro z a;cases a
 ·intro z a;cases a
 ·exact it_in c _
theorem rep_len{c:List Int}{x f:Int}(h:RepIs c o x f):o.length≤2048:=(disk.rep_few h).1
theorem getD_inR{j:Nat}(h:j<o.length):o.getD j []∈o:=by
 have e:o.getD j []=o[j]:=by simp[List.getD,List.getElem?_eq_getElem h]
 rw[e];exact List.getElem_mem _
theorem take_mapE(o:List (List Int))(k:Nat)(h:k<o.length):(o.take k).map evOf++[evOf (o.getD k [])]=(o.take (k+1)).map evOf:=by
 have e:o.getD k []=o[k]:=by simp[List.getD,List.getElem?_eq_getElem h]
 rw[List.take_succ_eq_append_getElem h,List.map_append,e];rfl
def KeptPost(w:World)(c:List Int)(e:Ending)(w':World):Prop:=∃p m cp l f,e=.returned (.tuple #[.slice p m cp,zI f])∧KeptIs c l f∧ECame w' p m cp l∧m≤2048∧zB w w'
theorem ecame_nil(w:World):ECame w none 0 0 []:=⟨⟨rfl,.inl rfl⟩,λ_=>rfl,zc,by omega,λv a=>by cases a⟩
open book (EMay evL EncIs DecIs Cm cm0 So so0 BookIs FirstAt NoneAt Tells)
open acc (Ac Tm Bi SellIs GrantIs RekeyIs OweIs)
open ora (Pr IssueIs)
open token (Tok fmtL)
theorem rekey_tok{a:Ac}{b:Ac}{l:Bi}(h:RekeyIs a b l 0):(1≤l.id∧l.id≤1048575)∧1≤a.rv+1∧a.rv+1≤15:=by
 rcases h with⟨_,_,_,h⟩|⟨_,_,_,_,h⟩|⟨_,_,_,_,_,h⟩|⟨c,e,d,rfl,rfl,_⟩
 ·cases h
 ·cases h
 ·cases h
 ·exact⟨⟨c.2.2.2.1.1,d⟩,by have:=c.2.2.1.1;omega,by omega⟩
theorem tokB_ok4{rv:Int}{l:Bi}{tg:Int}(h:(1≤l.id∧l.id≤1048575)∧1≤rv+1∧rv+1≤15)(ht:0≤tg∧tg≤65535):(tokB 4 rv l tg).ok∧(tokB 4 rv l tg).v=.agg #[zI 2,zI l.id,zI (rv+1),zI tg]:=by
 have e:tokB 4 rv l tg=⟨2,l.id.toNat,(rv+1).toNat,tg.toNat⟩:=by unfold tokB;rw[if_pos rfl]
 rw[e];refine⟨⟨by show (2:Nat)≤3;omega,?_,?_,?_,?_,(λh=>by cases h),λ_=>⟨?_,?_⟩,λh=>by rcases h with h|h<;>cases h⟩,?_⟩
 ·show 1≤l.id.toNat;omega
 ·show l.id.toNat≤1048575;omega
 ·show tg.toNat≤65535;omega
 ·show (rv+1).toNat≤2097151;omega
 ·show 1≤(rv+1).toNat;omega
 ·show (rv+1).toNat≤15;omega
 ·unfold token.Tok.v;show Value.agg #[zI ((2:Nat):Int),zI (l.id.toNat:Int),zI ((rv+1).toNat:Int),zI (tg.toNat:Int)]=_;rw[Int.toNat_of_nonneg (by omega),Int.toNat_of_nonneg (by omega),Int.toNat_of_nonneg ht.1];rfl
theorem issue_tag{l ls:List Pr}{m r b d x:Int}(h:IssueIs l m r b d ls x 0):0≤x∧x≤65535:=by
 rcases h with⟨_,_,_,h⟩|⟨_,_,_,_,h⟩|⟨e,a,⟨i,c,rfl⟩,_,_⟩|⟨_,_,_,_,_,_,h⟩|⟨_,a,_,_,_,rfl,_⟩
 ·cases h
 ·cases h
 ·exact(e.each i c.lt).1.2.2.2
 ·cases h
 ·exact a.2.2.2
end vnd
namespace token
open words
open Go.RowKit
theorem wn_ok{a b c V:Nat}(h:WN a b c V):W3.ok ⟨a,b,c⟩∧W3.val ⟨a,b,c⟩=V:=by
 have e:=h.a1;have f:=h.b1;have g:=h.c1;have d:=h.val;refine⟨⟨⟨by show (0:Int)≤a;omega,by show (a:Int)<_;omega⟩,⟨by show (0:Int)≤b;omega,by show (b:Int)<_;omega⟩,by show (0:Int)≤c;omega,by show (c:Int)<_;omega⟩,?_⟩;unfold bigV at d;unfold W3.val;simp only;omega
theorem wn_of{X:W3}(h:X.ok){V:Nat}(hV:X.val=V):∃a b c:Nat,X=⟨a,b,c⟩∧WN a b c V:=by
 obtain⟨x,y,z⟩:=X;obtain⟨⟨d,e⟩,⟨f,g⟩,i,j⟩:=h;simp only at *;obtain⟨a,rfl⟩:=Int.eq_ofNat_of_zero_le d;obtain⟨b,rfl⟩:=Int.eq_ofNat_of_zero_le f;obtain⟨c,rfl⟩:=Int.eq_ofNat_of_zero_le i;refine⟨a,b,c,rfl,by omega,by omega,by omega,?_⟩;unfold W3.val at hV;unfold bigV;simp only at hV;omega
theorem times_wn(a b c V m:Nat)(w:World)(h:WN a b c V)(hm:m<4294967296)(hv:V*m<79228162514264337593543950336):
  Calls Tryz.prog 124 #[.agg #[.int .u32 (a:Int),.int .u32 (b:Int),.int .u32 (c:Int)],.int .u32 (m:Int)] w λe w'=>
   ∃(a' b' c':Nat)(o:Int),e=.returned (.tuple #[.agg #[.int .u32 (a':Int),.int .u32 (b':Int),.int .u32 (c':Int)],.int .u32 o])∧WN a' b' c' (V*m)∧zB w w':=by
 have d:=wn_ok h;have j:=times_any ⟨a,b,c⟩ m w d.1 (by omega) (by omega)
 obtain ⟨a',b',c',g,i⟩:=wn_of (X:=timesW ⟨a,b,c⟩ m) (carry3_ok _ _ _) (V:=V*m) (by
  rw[times_mod,d.2];unfold top
  rw [← Int.natCast_mul,Int.emod_eq_of_lt (by omega) (by omega)])
 refine j.mono ?_;rintro e w' ⟨rfl,f⟩;exact⟨a',b',c',_,by rw[g],i,f⟩
theorem words_no(c i a t:Int)(w:World)(ht:TTab w)(h:flawT c i a t≠0):
  Calls Tryz.prog 78 #[.agg #[zI c,zI i,zI a,zI t]] w λe w'=>e=.returned (.tuple #[.agg #[.int .u32 0,.int .u32 0,.int .u32 0],zI (flawT c i a t)])∧zB w w':=by
 have p:Hid (∀W,TTab W→zC 111 #[.agg #[zI c,zI i,zI a,zI t]] W λe w'=>e=.returned (zI (flawT c i a t))∧zB W w'):=λW y=>flaw_any c i a t W y;have C:(flawT c i a t != 0)=true:=by simpa using h
 have d:zB w ((w.alloc (.cells #[zI c,zI i,zI a,zI t] 73)).alloc (.cells #[.int .u32 0,.int .u32 0,.int .u32 0] 135)):=(bel_box _ _).alloc (by simp) _;have n:Hid (zB w ((w.alloc (.cells #[zI c,zI i,zI a,zI t] 73)).alloc (.cells #[.int .u32 0,.int .u32 0,.int .u32 0] 135))):=d;have q:Hid (TTab ((w.alloc (.cells #[zI c,zI i,zI a,zI t] 73)).alloc (.cells #[.int .u32 0,.int .u32 0,.int .u32 0] 135))):=ht.below d;have r:Hid (Blk ((w.alloc (.cells #[zI c,zI i,zI a,zI t] 73)).alloc (.cells #[.int .u32 0,.int .u32 0,.int .u32 0] 135)) (w.heap.size+1) #[.int .u32 0,.int .u32 0,.int .u32 0] 135):=Blk.new1 _ _ _ _;clear ht h d;generalize flawT c i a t=f at *;go_enter Tryz.func78,Tryz.ntmps78;go_wp2_with fail;refine(p.o _ q.o).mono ?_;rintro e m ⟨rfl,g⟩;have b:=r.o.next g;have j:=bel_step n.o g;have l:Hid (zB w (((m.setCell ⟨w.heap.size+1,0,none⟩ (.int .u32 0)).setCell ⟨w.heap.size+1,1,none⟩ (.int .u32 0)).setCell ⟨w.heap.size+1,2,none⟩ (.int .u32 0))):=bel_set (bel_set (bel_set j _ _ _ (by omega)) _ _ _ (by omega)) _ _ _ (by omega);have k:Blk (((m.setCell ⟨w.heap.size+1,0,none⟩ (.int .u32 0)).setCell ⟨w.heap.size+1,1,none⟩ (.int .u32 0)).setCell ⟨w.heap.size+1,2,none⟩ (.int .u32 0)) (w.heap.size+1) #[.int .u32 0,.int .u32 0,.int .u32 0] 135:=((b.set 0 _).set 1 _).set 2 _;have s:Hid (_=_):=k.cell 0;have u:Hid (_=_):=k.cell 1;have x:Hid (_=_):=k.cell 2;have D:=b.cell 0;have E:=b.cell 1;have F:=b.cell 2;have z:=b.free 0;have A:=b.free 1;have B:=b.free 2;clear g b k j;go_wp2_with fail;refine bodyPost_ret (v:=.tuple #[.agg #[.int .u32 0,.int .u32 0,.int .u32 0],zI f]) (by simp[results,Tryz.results78,s.o,u.o,x.o,go_sem]) rfl ⟨rfl,l.o⟩
def WordsPost(w:World)(k:Tok)(e:Ending)(w':World):Prop:=∃a b c:Nat,e=.returned (.tuple #[.agg #[.int .u32 (a:Int),.int .u32 (b:Int),.int .u32 (c:Int)],zI 0])∧WN a b c (k.num*97)∧zB w w'
theorem words_ok(k:Tok)(w:World)(ht:TTab w)(hk:k.ok):
  Calls Tryz.prog 78 #[k.v] w λe w'=>WordsPost w k e w':=by
 have M:Hid (∀W,TTab W→zC 111 #[.agg #[zI (k.c:Int),zI (k.i:Int),zI (k.a:Int),zI (k.t:Int)]] W λe w'=>e=.returned (zI 0)∧zB W w'):=λW r=>by
  have:=flaw_any k.c k.i k.a k.t W r
  rwa [flaw_tok.2 hk] at this
 have O:Hid (∀W,TTab W→zC 113 #[.agg #[zI (k.c:Int),zI (k.i:Int),zI (k.a:Int),zI (k.t:Int)]] W λe w'=>PackPost W k e w'):=λW r=>pack_any k W hk r
 have P:Hid (∀(x y z:Nat) W,WN x y z k.num→zC 124 #[.agg #[.int .u32 (x:Int),.int .u32 (y:Int),.int .u32 (z:Int)],.int .u32 97] W λe w'=>∃(d f g:Nat)(o:Int),e=.returned (.tuple #[.agg #[.int .u32 (d:Int),.int .u32 (f:Int),.int .u32 (g:Int)],.int .u32 o])∧WN d f g (k.num*97)∧zB W w'):=λx y z W r=>
  times_wn x y z k.num 97 W r (by omega) (by have:=num_bd hk;omega)
 have m:zB w ((w.alloc (.cells #[zI (k.c:Int),zI (k.i:Int),zI (k.a:Int),zI (k.t:Int)] 73)).alloc (.cells #[.int .u32 0,.int .u32 0,.int .u32 0] 135)):=(bel_box _ _).alloc (by simp) _;have L:Hid (zB w ((w.alloc (.cells #[zI (k.c:Int),zI (k.i:Int),zI (k.a:Int),zI (k.t:Int)] 73)).alloc (.cells #[.int .u32 0,.int .u32 0,.int .u32 0] 135))):=m;have G:Hid (TTab ((w.alloc (.cells #[zI (k.c:Int),zI (k.i:Int),zI (k.a:Int),zI (k.t:Int)] 73)).alloc (.cells #[.int .u32 0,.int .u32 0,.int .u32 0] 135))):=ht.below m;have Q:Hid (Blk ((w.alloc (.cells #[zI (k.c:Int),zI (k.i:Int),zI (k.a:Int),zI (k.t:Int)] 73)).alloc (.cells #[.int .u32 0,.int .u32 0,.int .u32 0] 135)) (w.heap.size+1) #[.int .u32 0,.int .u32 0,.int .u32 0] 135):=Blk.new1 _ _ _ _;have R:Hid (Blk ((w.alloc (.cells #[zI (k.c:Int),zI (k.i:Int),zI (k.a:Int),zI (k.t:Int)] 73)).alloc (.cells #[.int .u32 0,.int .u32 0,.int .u32 0] 135)) w.heap.size #[zI (k.c:Int),zI (k.i:Int),zI (k.a:Int),zI (k.t:Int)] 73):=(Blk.new _ _ _).alloc _;clear ht hk m;unfold Tok.v;go_enter Tryz.func78,Tryz.ntmps78;go_wp2_with fail;refine(M.o _ G.o).mono ?_;rintro e V ⟨rfl,h⟩;have A:=shB L h;have F:Hid (TTab V):=G.o.below h;have D:=shN Q h;have s:=R.o.next h;have I:=s.cell 0;have J:=s.cell 1;have K:=s.cell 2;have X:=s.cell 3;clear h s;go_wp2_with fail;refine(O.o _ F.o).mono ?_;rintro e w2 ⟨x,y,z,rfl,j,n⟩;have p:=shB A n;have E:=shN D n;have N:Hid (WN x y z k.num):=j;clear n j I J K X;go_wp2_with fail;refine(P.o _ _ _ _ N.o).mono ?_;rintro e H ⟨d,f,g,o,rfl,j,l⟩;have q:=(bel_step p.o l).alloc (bel_step p.o l).size (.cells #[.int .u32 (d:Int),.int .u32 (f:Int),.int .u32 (g:Int)] 135);have b:=(E.o.next l).alloc (.cells #[.int .u32 (d:Int),.int .u32 (f:Int),.int .u32 (g:Int)] 135)
 have C:Hid (WN d f g (k.num*97)):=j;clear l j;have B:Hid (zB w ((((H.alloc (.cells #[.int .u32 (d:Int),.int .u32 (f:Int),.int .u32 (g:Int)] 135)).setCell ⟨w.heap.size+1,0,none⟩ (.int .u32 (d:Int))).setCell ⟨w.heap.size+1,1,none⟩ (.int .u32 (f:Int))).setCell ⟨w.heap.size+1,2,none⟩ (.int .u32 (g:Int)))):=bel_set (bel_set (bel_set q _ _ _ (by omega)) _ _ _ (by omega)) _ _ _ (by omega);have u:Blk ((((H.alloc (.cells #[.int .u32 (d:Int),.int .u32 (f:Int),.int .u32 (g:Int)] 135)).setCell ⟨w.heap.size+1,0,none⟩ (.int .u32 (d:Int))).setCell ⟨w.heap.size+1,1,none⟩ (.int .u32 (f:Int))).setCell ⟨w.heap.size+1,2,none⟩ (.int .u32 (g:Int))) (w.heap.size+1) #[.int .u32 (d:Int),.int .u32 (f:Int),.int .u32 (g:Int)] 135:=((b.set 0 _).set 1 _).set 2 _;have S:Hid (_=_):=u.cell 0;have T:Hid (_=_):=u.cell 1;have U:Hid (_=_):=u.cell 2;have I:=b.cell 0;have J:=b.cell 1;have K:=b.cell 2;have Y:=b.free 0;have Z:=b.free 1;have f2:=b.free 2;clear u b q;go_wp2_with fail;refine bodyPost_ret (v:=.tuple #[.agg #[.int .u32 (d:Int),.int .u32 (f:Int),.int .u32 (g:Int)],zI 0]) (by simp[results,Tryz.results78,S.o,T.o,U.o,go_sem]) rfl ⟨d,f,g,rfl,C.o,B.o⟩
end token
namespace book
open Go.RowKit
theorem bnum(kd me mo id te de fe pr ch un tg ow bp:Int)(w:World):Calls Tryz.prog 185 #[.agg #[zI kd,zI me,zI mo,zI id,zI te,zI de,zI fe,zI pr,zI ch,zI un,zI tg,zI ow,zI bp]] w λe w'=>YN w (Numd id tg) e w':=by
 obtain⟨m,C,a,B,-⟩:=sh1 w #[zI kd,zI me,zI mo,zI id,zI te,zI de,zI fe,zI pr,zI ch,zI un,zI tg,zI ow,zI bp] 44;go_enter Tryz.func185,Tryz.ntmps185;go_upto_region 1 with fail
 rw[C.o];have c0:=zy0 a;have c1:=zy1 a;have c2:=zy2 a;have p:=zy3 a;have r:=zy4 a;have s:=zy5 a;have t:=zy6 a;have u:=zy7 a;have x:=zy8 a;have y:=zy9 a;have g:=zy10 a;have h:=zy11 a;have i:=zy12 a;have d:Hid (zC 161 #[zI 1,zI 1048575,.slice (some ⟨m.heap.size,0,none⟩) 1 1] (m.alloc (.cells #[zI id] 3)) λe w'=>e=.returned (.bool (decide (1≤id∧id≤1048575)))∧w'=(m.alloc (.cells #[zI id] 3))):=bki.within_one 1 1048575 id m _ rfl;have k:=zyf B (.cells #[zI id] 3);have b:=zya a (.cells #[zI id] 3);by_cases z:1≤id∧id≤1048575
 case neg=>
  rw[decide_eq_false z] at d;go_wp2_with fail;refine d.o.mono ?_;rintro e W ⟨rfl,j⟩;subst j;go_wp2_with fail;go_ret;exact YN.no (λq=>z q.1) k.o
 rw[decide_eq_true z] at d;go_wp2_with fail;refine d.o.mono ?_;rintro e W ⟨rfl,j⟩;subst j;clear c0 c1 c2 p r s t u x y g h i;generalize (m.alloc (.cells #[zI id] 3))=n at *;have c0:=zy0 b;have c1:=zy1 b;have c2:=zy2 b;have p:=zy3 b;have r:=zy4 b;have s:=zy5 b;have t:=zy6 b;have u:=zy7 b;have x:=zy8 b;have y:=zy9 b;have g:=zy10 b;have h:=zy11 b;have i:=zy12 b;have f:Hid (zC 161 #[zI 0,zI 65535,.slice (some ⟨n.heap.size,0,none⟩) 1 1] (n.alloc (.cells #[zI tg] 3)) λe w'=>e=.returned (.bool (decide (0≤tg∧tg≤65535)))∧w'=(n.alloc (.cells #[zI tg] 3))):=bki.within_one 0 65535 tg n _ rfl;have l:=zyf k (.cells #[zI tg] 3);have c:=zya b (.cells #[zI tg] 3);by_cases A:0≤tg∧tg≤65535
 case neg=>
  rw[decide_eq_false A] at f;go_wp2_with fail;refine f.o.mono ?_;rintro e W ⟨rfl,j⟩;subst j;go_wp2_with fail;go_ret;exact YN.no (λq=>A q.2) l.o
 rw[decide_eq_true A] at f;go_wp2_with fail;refine f.o.mono ?_;rintro e W ⟨rfl,j⟩;subst j;clear c0 c1 c2 p r s t u x y g h i;generalize (n.alloc (.cells #[zI tg] 3))=D at *;have c0:=zy0 c;have c1:=zy1 c;have c2:=zy2 c;have p:=zy3 c;have r:=zy4 c;have s:=zy5 c;have t:=zy6 c;have u:=zy7 c;have x:=zy8 c;have y:=zy9 c;have g:=zy10 c;have h:=zy11 c;have i:=zy12 c;go_wp2_with fail;go_ret;exact YN.yes (⟨z,A⟩) l.o
theorem bunt(kd me mo id te de fe pr ch un tg ow bp:Int)(w:World):Calls Tryz.prog 186 #[.agg #[zI kd,zI me,zI mo,zI id,zI te,zI de,zI fe,zI pr,zI ch,zI un,zI tg,zI ow,zI bp]] w λe w'=>YN w (Unt un) e w':=by
 obtain⟨f,l,a,k,-⟩:=sh1 w #[zI kd,zI me,zI mo,zI id,zI te,zI de,zI fe,zI pr,zI ch,zI un,zI tg,zI ow,zI bp] 44;go_enter Tryz.func186,Tryz.ntmps186;go_upto_region 1 with fail
 rw[l.o];have c0:=zy0 a;have c1:=zy1 a;have c2:=zy2 a;have n:=zy3 a;have p:=zy4 a;have r:=zy5 a;have s:=zy6 a;have t:=zy7 a;have u:=zy8 a;have x:=zy9 a;have g:=zy10 a;have h:=zy11 a;have i:=zy12 a;have c:Hid (zC 161 #[zI 1,zI 2097151,.slice (some ⟨f.heap.size,0,none⟩) 1 1] (f.alloc (.cells #[zI un] 3)) λe w'=>e=.returned (.bool (decide (1≤un∧un≤2097151)))∧w'=(f.alloc (.cells #[zI un] 3))):=bki.within_one 1 2097151 un f _ rfl;have d:=zyf k (.cells #[zI un] 3);have b:=zya a (.cells #[zI un] 3);by_cases j:1≤un∧un≤2097151
 case neg=>
  rw[decide_eq_false j] at c;go_wp2_with fail;refine c.o.mono ?_;rintro e W ⟨rfl,m⟩;subst m;go_wp2_with fail;go_ret;exact YN.no (λq=>j q) d.o
 rw[decide_eq_true j] at c;go_wp2_with fail;refine c.o.mono ?_;rintro e W ⟨rfl,m⟩;subst m;clear c0 c1 c2 n p r s t u x g h i;generalize (f.alloc (.cells #[zI un] 3))=y at *;have c0:=zy0 b;have c1:=zy1 b;have c2:=zy2 b;have n:=zy3 b;have p:=zy4 b;have r:=zy5 b;have s:=zy6 b;have t:=zy7 b;have u:=zy8 b;have x:=zy9 b;have g:=zy10 b;have h:=zy11 b;have i:=zy12 b;go_wp2_with fail;go_ret;exact YN.yes (j) d.o
theorem bmony(id te de fe pr ch un:Int)(w:World):Calls Tryz.prog 187 #[.agg #[zI id,zI te,zI de,zI fe,zI pr,zI ch,zI un]] w λe w'=>YN w (Mony te de fe pr ch) e w':=by
 obtain⟨j,x,h,u,-⟩:=sh1 w #[zI id,zI te,zI de,zI fe,zI pr,zI ch,zI un] 33;go_enter Tryz.func187,Tryz.ntmps187;go_upto_region 1 with fail
 rw[x.o];obtain⟨c0,c1,c2,n,p,r,s⟩:=scl7 h;have a:Hid (zC 161 #[zI 1,zI 100000000,.slice (some ⟨j.heap.size,0,none⟩) 1 1] (j.alloc (.cells #[zI te] 3)) λe w'=>e=.returned (.bool (decide (1≤te∧te≤100000000)))∧w'=(j.alloc (.cells #[zI te] 3))):=bki.within_one 1 100000000 te j _ rfl;have g:=zyf u (.cells #[zI te] 3);have i:=zya h (.cells #[zI te] 3);by_cases l:1≤te∧te≤100000000
 case neg=>
  rw[decide_eq_false l] at a;go_wp2_with fail;refine a.o.mono ?_;rintro e W ⟨rfl,d⟩;subst d;go_wp2_with fail;go_ret;exact YN.no (λq=>l q.1) g.o
 rw[decide_eq_true l] at a;go_wp2_with fail;refine a.o.mono ?_;rintro e W ⟨rfl,d⟩;subst d;clear c0 c1 c2 n p r s;generalize (j.alloc (.cells #[zI te] 3))=k at *;obtain⟨c0,c1,c2,n,p,r,s⟩:=scl7 i;have b:Hid (zC 161 #[zI 0,zI 100000000,.slice (some ⟨k.heap.size,0,none⟩) 4 4] (k.alloc (.cells #[zI de,zI fe,zI pr,zI ch] 3)) λe w'=>e=.returned (.bool (bki.okAll 0 100000000 [de,fe,pr,ch]))∧w'=(k.alloc (.cells #[zI de,zI fe,zI pr,zI ch] 3))):=bki.within_any 0 100000000 _ 4 4 [de,fe,pr,ch] _ (bki.row_four k de fe pr ch 3) (by decide);have c:=zyf g (.cells #[zI de,zI fe,zI pr,zI ch] 3);have y:=zya i (.cells #[zI de,zI fe,zI pr,zI ch] 3);by_cases m:bki.okAll 0 100000000 [de,fe,pr,ch]=true
 case neg=>
  rw[show bki.okAll 0 100000000 [de,fe,pr,ch]=false by simpa using m] at b;go_wp2_with fail;refine b.o.mono ?_;rintro e W ⟨rfl,d⟩;subst d;go_wp2_with fail;go_ret;exact YN.no (λq=>m (by simpa [bki.okAll] using q.2.1)) c.o
 rw[m] at b;go_wp2_with fail;refine b.o.mono ?_;rintro e W ⟨rfl,d⟩;subst d;clear c0 c1 c2 n p r s;generalize (k.alloc (.cells #[zI de,zI fe,zI pr,zI ch] 3))=D at *;obtain⟨c0,c1,c2,n,p,r,s⟩:=scl7 y;have z:(0≤de∧de≤100000000)∧(0≤fe∧fe≤100000000)∧(0≤pr∧pr≤100000000)∧0≤ch∧ch≤100000000:=by simpa [bki.okAll] using m
 have E:IntKind.i64.wrap (de+fe)=de+fe:=by rw[IntKind.wrap_i64];omega
 have F:IntKind.i64.wrap (de+fe+pr)=de+fe+pr:=by rw[IntKind.wrap_i64];omega
 have G:IntKind.i64.wrap (de+fe+pr+ch)=de+fe+pr+ch:=by rw[IntKind.wrap_i64];omega
 have B:=zh z;have A:=zh l;clear z m l;by_cases f:de+fe+pr+ch=te
 ·have C:((de+fe+pr+ch)==te)=true:=by simpa using f
  have t:=zh f;clear f;go_wp2_with fail;go_ret;exact YN.yes ⟨A.o,B.o,t.o⟩ c.o
 ·have C:((de+fe+pr+ch)==te)=false:=by simpa using f
  have t:=zh f;clear f;go_wp2_with fail;go_ret;exact YN.no (λq=>t.o q.2.2) c.o
open acc (Ac Tm Bi APost BPost TFault TRight OpenIs OweIs SellIs GrantIs RekeyIs wf6 ACame TCame fresh_updN fresh_drew came_lt)
def CuPost(w:World)(a:Option Addr)(bk:List Cm)(me:Int)(e:Ending)(w':World):Prop:=w'=w∧((∃k g,FirstAt bk me k∧a=some ⟨g,0,none⟩∧e=.returned (.pointer (some ⟨g,k*8,none⟩)))∨(NoneAt bk me∧e=.panicked (thrown 18)))
theorem bcust(gW B:Nat)(t:Tm)(pt:Option Addr)(lt ct:Nat)(a:Option Addr)(n cap:Nat)(bk:List Cm)(me:Int)(w:World)(hw:Blk w gW #[.slice a n cap,.slice pt lt ct,zI t.ff,zI t.fb,zI t.db,zI t.al,.map (some B)] 170)(hm:MpI w B (mes bk))(hn:bk.length=n)(ha:0<n→∃g,a=some ⟨g,0,none⟩)(hs:n≤1000):Calls Tryz.prog 153 #[.pointer (some ⟨gW,0,none⟩),zI me] w λe w'=>CuPost w a bk me e w':=by
 have f:Hid (∀W,zC 164 #[zI 18] W λe w'=>e=.panicked (thrown 18)∧w'=W):=λW=>insist_no 18 (by decide) W;have j:=hw.cell 0;have l:=hw.cell 6;have b:=lookI_run hm me;clear hw hm;cases hf:firstI (mes bk) me with
 |none=>
  rw[hf] at b;simp only[Option.getD_none,Option.isSome_none] at b;have d:=zh (first_none hf);clear hf;go_enter Tryz.func153,Tryz.ntmps153;go_wp2_with fail;refine(f.o _).mono ?_;rintro e i ⟨rfl,rfl⟩;exact⟨rfl,rfl,.inr ⟨d.o,rfl⟩⟩
 |some k=>
  rw[hf] at b;simp only[Option.getD_some,Option.isSome_some] at b;have c:=first_some hf;have h:k<n:=by have:=c.1;omega
  obtain⟨g,rfl⟩:=ha (by omega);have d:=zh c;clear hf c ha hn;go_enter Tryz.func153,Tryz.ntmps153;go_wp2_with fail;go_ret;exact⟨rfl,.inl ⟨k,g,d.o,rfl,by first|rfl|simp⟩⟩
end book
namespace token
open words
open Go.RowKit
theorem str_list(ns:List Int):(strOf ns).data.toList=ns.map byt:=by
 have h:∀(ns:List Int)(r:ByteArray),(ns.foldl (λr n=>r.push (UInt8.ofNat n.toNat)) r).data.toList=r.data.toList++ns.map byt:=by
  intro ns
  induction ns with
  |nil=>intro r;simp
  |cons x l ih=>intro r;rw[List.foldl_cons,ih];simp[ByteArray.push,byt]
 have:=h ns ByteArray.empty;simpa [strOf] using this
theorem str_size(ns:List Int):(strOf ns).size=ns.length:=by
 rw[← check.len_eq,str_list];simp
theorem rep_list(n:Nat):Lib.repeatL [48] n=List.replicate n 48:=by
 induction n with
 |zero=>rfl
 |succ n ih=>rw[Lib.repeatL,ih];rfl
theorem bytes_ext{a b:ByteArray}(h:a.data.toList=b.data.toList):a=b:=by
 cases a;cases b;congr 1;exact Array.toList_inj.1 h
theorem pad_fmt(V n:Nat)(h:n+(decL V).length=20):(⟨(Lib.repeatL [48] n).toArray⟩:ByteArray)++strOf (decL V)=fmtB V:=by
 apply bytes_ext;rw[fmtB_list,show ((⟨(Lib.repeatL [48] n).toArray⟩:ByteArray)++strOf (decL V)).data.toList=Lib.repeatL [48] n++(strOf (decL V)).data.toList by simp,str_list,rep_list];unfold fmtL;rw[show 20-(decL V).length=n by omega]
theorem show_wn(a b c V:Nat)(w:World)(h:WN a b c V):
  Calls Tryz.prog 79 #[.agg #[.int .u32 (a:Int),.int .u32 (b:Int),.int .u32 (c:Int)]] w λe w'=>e=.returned (.string (strOf (decL V)))∧zB w w':=by
 have d:=wn_ok h;have:=show_any ⟨a,b,c⟩ w d.1
 rwa [d.2,Int.toNat_natCast] at this
theorem format_ok(k:Tok)(w:World)(ht:TTab w)(hk:k.ok):
  Calls Tryz.prog 41 #[k.v] w λe w'=>e=.returned (.tuple #[.string (fmtB (97*k.num)),zI 0])∧zB w w':=by
 have B:Hid (∀W,TTab W→zC 78 #[.agg #[zI (k.c:Int),zI (k.i:Int),zI (k.a:Int),zI (k.t:Int)]] W λe w'=>WordsPost W k e w'):=λW u=>words_ok k W u hk;have y:=num_bd hk;have x:=dec_len20 (V:=k.num*97) (by omega);have h:=str_size (decL (k.num*97));have s:Hid (∀(a b c:Nat) W,WN a b c (k.num*97)→zC 79 #[.agg #[.int .u32 (a:Int),.int .u32 (b:Int),.int .u32 (c:Int)]] W λe w'=>e=.returned (.string (strOf (decL (k.num*97))))∧zB W w'):=λa b c W u=>show_wn a b c _ W u;obtain⟨n,hn⟩:∃n:Nat,n+(decL (k.num*97)).length=20:=⟨20-(decL (k.num*97)).length,by omega⟩
 have r:Hid (∀W,zC 80 #[.string ⟨#[48]⟩,zI (n:Int)] W λe w'=>e=.returned (.string ⟨(Lib.repeatL [48] n).toArray⟩)∧zB W w'):=λW=>Tryz.strings_Repeat ⟨#[48]⟩ n W (by omega) (by show 1*n≤_;omega)
 have F:Hid ((⟨(Lib.repeatL [48] n).toArray⟩:ByteArray)++strOf (decL (k.num*97))=fmtB (97*k.num)):=by
  show _=_;rw[pad_fmt _ _ hn,Nat.mul_comm]
 have H:(⟨(Lib.repeatL [48] n).toArray⟩:ByteArray).size=n:=by
  show (Lib.repeatL [48] n).toArray.size=n;rw[rep_list];simp
 have C:Hid (TTab (w.alloc (.cells #[zI (k.c:Int),zI (k.i:Int),zI (k.a:Int),zI (k.t:Int)] 73))):=ht.below (bel_box _ _);have z:Hid (zB w (w.alloc (.cells #[zI (k.c:Int),zI (k.i:Int),zI (k.a:Int),zI (k.t:Int)] 73))):=bel_box _ _;rw[← h] at hn x;clear ht hk y h;generalize strOf (decL (k.num*97))=D at *;generalize (⟨(Lib.repeatL [48] n).toArray⟩:ByteArray)=Z at *;have G:(20:Int)-(D.size:Int)=(n:Int):=by omega
 unfold Tok.v;go_enter Tryz.func41,Tryz.ntmps41;go_wp2_with fail;refine(B.o _ C.o).mono ?_;rintro e A ⟨a,b,c,rfl,j,d⟩;have l:=Blk.new A #[.int .u32 (a:Int),.int .u32 (b:Int),.int .u32 (c:Int)] 135;have m:Hid (zB w (A.alloc (.cells #[.int .u32 (a:Int),.int .u32 (b:Int),.int .u32 (c:Int)] 135))):=(bel_step z.o d).alloc (bel_step z.o d).size _;have E:Hid (WN a b c (k.num*97)):=j;have c0:=l.cell 0;have c1:=l.cell 1;have c2:=l.cell 2;clear d j l;go_wp2_with fail;refine(s.o _ _ _ _ E.o).mono ?_;rintro e I ⟨rfl,f⟩;have p:=shB m f;clear f c0 c1 c2;go_wp2_with fail;refine(r.o _).mono ?_;rintro e J ⟨rfl,g⟩;have q:=shB p g;clear g;go_wp2_with fail;refine bodyPost_ret (v:=.tuple #[.string (Z++D),zI 0]) (by simp[results,Tryz.results41,go_sem]) rfl ⟨by rw[F.o],q.o⟩
theorem blk_ex{w w':World}{G z:Nat}{cs:Array Value}{t:TypeId}(h:Blk w G cs t)(he:Ex w w' z)(hne:G≠z):Blk w' G cs t:=by
 have a:=h.lt;unfold Blk at *;rw[he.block G a hne];exact h
theorem number_abs(k:Tok)(B M1 M2 M3:Nat)(w:World)
  (HF:Hid (∀W,zC 25 #[.agg #[zI (k.c:Int),zI (k.i:Int),zI (k.a:Int),zI (k.t:Int)]] W λe w'=>e=.returned (.tuple #[zI (B:Int),zI 0])∧zB W w'))
  (HE:Hid (B*65536=M1∧M1+k.t=M2∧M2*97=M3)) (hB:B<9223372036854775808) (ht:k.t<9223372036854775808)
  (HL:Hid ((dig B).length≤100∧(dig 65536).length≤100∧(dig M1).length≤100∧(dig k.t).length≤100∧(dig M2).length≤100∧(dig 97).length≤100)):
  Calls Tryz.prog 59 #[k.v] w λe w'=>NewPost w M3 e w':=by
 have M:Hid (zB w (w.alloc (.cells #[zI (k.c:Int),zI (k.i:Int),zI (k.a:Int),zI (k.t:Int)] 73))):=zb.alloc zc _;have a0:Hid (Blk (w.alloc (.cells #[zI (k.c:Int),zI (k.i:Int),zI (k.a:Int),zI (k.t:Int)] 73)) w.heap.size #[zI (k.c:Int),zI (k.i:Int),zI (k.a:Int),zI (k.t:Int)] 73):=Blk.new _ _ _;unfold Tok.v;go_enter Tryz.func59,Tryz.ntmps59;go_wp2_with fail;refine(HF.o _).mono ?_;rintro e w1 ⟨rfl,d⟩;have N:=shB M d;have y:=shN a0 d;clear d;go_wp2_with fail;refine(newInt_any B _ hB).mono ?_;rintro e w2 ⟨z,rfl,hz,C,f⟩;have O:=shB N f;have a1:=shN y f;have A:Hid (w.heap.size<z):=Nat.lt_of_lt_of_le y.o.lt hz;have p:Hid (Bg w2 z B):=C;clear f C hz;go_wp2_with fail;refine(newInt_any 65536 _ (by decide)).mono ?_;rintro e w3 ⟨q3,rfl,a4,D,b⟩;have P:=shB O b;have a2:=shN a1 b;have N3:=p.o.below b;have L:=p.o.ob.lt;have I:q3≠z:=by omega
 have q:Hid (Bg w3 z B):=N3;have X:Hid (Bg w3 q3 65536):=D;clear b D a4 N3 L;go_wp2_with fail;refine(Mul_any z z q3 B 65536 _ q.o X.o q.o.ob I HL.o.1 HL.o.2.1).mono ?_;rintro e w4 ⟨rfl,j,n⟩;rw[HE.o.1] at j;have Q:Hid (zB w w4):=n.below P.o (by have:=A.o;omega);have a3:Hid (Blk w4 w.heap.size #[zI (k.c:Int),zI (k.i:Int),zI (k.a:Int),zI (k.t:Int)] 73):=blk_ex a2.o n (by have:=A.o;omega);have r:Hid (Bg w4 z M1):=j;have x3:=a3.o.cell 3;clear j n I;go_wp2_with fail;refine(newInt_any k.t _ ht).mono ?_;rintro e w5 ⟨q5,rfl,a5,E,g⟩;have R:=shB Q g;have N5:=r.o.below g;have L:=r.o.ob.lt;have J:q5≠z:=by omega
 have s:Hid (Bg w5 z M1):=N5;have Y:Hid (Bg w5 q5 k.t):=E;clear g E a5 N5 L x3;go_wp2_with fail;refine(Add_any z z q5 M1 k.t _ s.o Y.o s.o.ob J HL.o.2.2.1 HL.o.2.2.2.1).mono ?_;rintro e w6 ⟨rfl,l,G⟩;rw[HE.o.2.1] at l;have S:Hid (zB w w6):=G.below R.o (by have:=A.o;omega);have u:Hid (Bg w6 z M2):=l;clear l G J;go_wp2_with fail;refine(newInt_any 97 _ (by decide)).mono ?_;rintro e w7 ⟨q7,rfl,a6,F,h⟩;have T:=shB S h;have N7:=u.o.below h;have L:=u.o.ob.lt;have K:q7≠z:=by omega
 have x:Hid (Bg w7 z M2):=N7;have Z:Hid (Bg w7 q7 97):=F;clear h F a6 N7 L;go_wp2_with fail;refine(Mul_any z z q7 M2 97 _ x.o Z.o x.o.ob K HL.o.2.2.2.2.1 HL.o.2.2.2.2.2).mono ?_;rintro e w8 ⟨rfl,m,H⟩;rw[HE.o.2.2] at m;have U:Hid (zB w w8):=H.below T.o (by have:=A.o;omega);have V:Hid (Bg w8 z M3):=m;clear m H K;go_wp2_with fail;go_ret;exact NewPost.mk (by have:=A.o;omega) V.o U.o
theorem number_any(k:Tok)(w:World)(hk:k.ok):
  Calls Tryz.prog 59 #[k.v] w λe w'=>NewPost w (k.num*97) e w':=by
 have b:=body_bd hk;have f:=num_lt hk;have g:=hk.t2;have c:k.body*65536+k.t=k.num:=by unfold Tok.body Tok.num;omega
 have a:∀m,m<4294967296^8→(dig m).length≤100:=λm d=>len100 d;refine number_abs k k.body (k.body*65536) k.num (k.num*97) w (λW=>bodyOf_ok k W hk) ⟨rfl,c,rfl⟩ (by omega) (by omega) ⟨a _ (Nat.lt_of_le_of_lt b (by decide)),a _ (by decide),a _ (Nat.lt_of_le_of_lt (show k.body*65536≤8796093022207*65536 by omega) (by decide)),a _ (Nat.lt_of_le_of_lt g (by decide)),a _ (Nat.lt_trans f (by decide)),a _ (by decide)⟩
end token
end Go.Proofs.YtoepgdhiepedeaaGreatDoor
