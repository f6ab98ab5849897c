import Derived.Test.YtoepgdhiepedeaaGreatDoorVVSls8
import Derived.Test.YtoepgdhiepedeaaGreatDoorVVSls9
import Derived.Test.YtoepgdhiepedeaaGreatDoorVVSls10
set_option linter.unusedVariables false
set_option linter.unusedSimpArgs false
set_option maxHeartbeats 4000000
set_option maxRecDepth 100000
namespace Go.Proofs.YtoepgdhiepedeaaGreatDoor
namespace acc
open tar (Du du0 Came RowD Ld PairT)
open Go.RowKit
theorem grown_blk{w w':World}{own:Option Nat}{G:Nat}{cs:Array Value}{t:TypeId}(h:Blk w G cs t)(hg:w.grownBy w' own)(hne:some G≠own):Blk w' G cs t:=by
 unfold Blk at *;rw[hg.block G (Blk.lt h) hne];exact h
structure Chg (w W:World) (g:Nat):Prop where
 os:W.os=w.os
 tape:W.tape=w.tape
 output:W.output=w.output
 size:w.heap.size≤W.heap.size
 oth:∀k,k<w.heap.size→k≠g→W.heap[k]?=w.heap[k]?
theorem Chg.refl(w:World)(g:Nat):Chg w w g:=⟨rfl,rfl,rfl,zc,λ_ _ _=>rfl⟩
variable{g:Nat}{p:Option Addr}{l:List Du}{len cap:Nat}
theorem Chg.trans{w W V:World}(h:Chg w W g)(h':Chg W V g):Chg w V g:=
 ⟨h'.os.trans h.os,h'.tape.trans h.tape,h'.output.trans h.output,Nat.le_trans h.size h'.size,λk b a=>(h'.oth k (Nat.lt_of_lt_of_le b h.size) a).trans (h.oth k b a)⟩
theorem Chg.of{w W:World}(hb:zB w W):Chg w W g:=⟨hb.os,hb.tape,hb.output,hb.size,λk a _=>hb.block k a⟩
theorem Chg.upd{w W:World}{cs:Array Value}{t:TypeId}(hu:Upd w W g cs t):Chg w W g:=by
 have h:=hu.bel 0 w (Nat.zero_le _) zb;exact⟨h.os,h.tape,h.output,h.size,λk _ a=>hu.oth k a⟩
theorem Chg.keep{w W:World}{g G:Nat}{cs:Array Value}{t:TypeId}(h:Chg w W g)(hb:Blk w G cs t)(hne:G≠g):Blk W G cs t:=by
 have a:=hb.lt;unfold Blk at *;rw[h.oth G a hne];exact hb
theorem Chg.bel{w W:World}(h:Chg w W g)(hl:g≤w.heap.size):Below g w W:=
 ⟨h.os,h.tape,h.output,h.size,λk a=>h.oth k (by omega) (by omega)⟩
def Far(p:Option Addr)(len g:Nat):Prop:=0<len→∀y,p=some y→y.block≠g
theorem row_chg{w W:World}{len:Nat}(h:RowD w p len l)(hc:Chg w W g)(hf:Far p len g):RowD W p len l:=by
 refine⟨h.1,?_⟩;rcases Nat.eq_zero_or_pos len with a|a
 ·exact .inl a
 ·obtain⟨b,f,rfl,j,c⟩:=h.at a;have d:b≠g:=hf a _ rfl;refine .inr ⟨b,f,rfl,λi k=>?_⟩;have e:∀o,W.cell? ⟨b,o,none⟩=w.cell? ⟨b,o,none⟩:=λo=>by simp only[World.cell?,hc.oth b j d]
  rw[e,e];exact c i k
theorem came_chg{w W:World}(h:Came w p len cap l)(hc:Chg w W g)(hf:Far p len g):Came W p len cap l:=⟨row_chg h.row hc hf,h.nil,h.room,h.bytes,h.wf⟩
theorem fresh_far{w:World}(h:deb.Fresh w (g+1) p len cap l):Far p len g:=λa y b=>by have:=h.new a y b;omega
theorem fresh_chg{w W:World}(h:deb.Fresh w (g+1) p len cap l)(hc:Chg w W g):deb.Fresh W (g+1) p len cap l:=⟨came_chg h.came hc (fresh_far h),h.new⟩
def wcs(x:Ac)(b:Bi)(p:Option Addr)(len cap:Nat):Array Value:=#[zI x.me,zI x.rv,zI x.nx,zI x.mo,zI x.bo,zI x.fr,.slice p len cap,zI b.id,zI b.te,zI b.de,zI b.fe,zI b.pr,zI b.ch,zI b.un]
def WPost(w:World)(g:Nat)(R:Ac→Bi→Int→Prop)(e:Ending)(w':World):Prop:=∃y b q n c f,e=.returned (zI f)∧R y b f∧Blk w' g (wcs y b q n c) 132∧deb.Fresh w' (g+1) q n c y.ds∧Below g w w'
def DPost(w:World)(g:Nat)(R:Ac→Bi→Int→Prop)(e:Ending)(w':World):Prop:=∃y b q n c f,e=.returned (zI f)∧R y b f∧Blk w' g (wcs y b q n c) 132∧deb.Fresh w' (g+1) q n c y.ds∧Chg w w' g
theorem DPost.w{w w':World}{R:Ac→Bi→Int→Prop}{e:Ending}(h:DPost w g R e w')(hl:g≤w.heap.size):WPost w g R e w':=by
 obtain⟨y,b,q,n,c,f,a,d,i,j,k⟩:=h;exact⟨y,b,q,n,c,f,a,d,i,j,k.bel hl⟩
def Or0(Is:Ac→Bi→Int→Prop)(y:Ac)(b:Bi)(f:Int):Prop:=(f≠0∧Is ac0 bi0 f)∨(f=0∧Is y b 0)
theorem blk_new4(w:World)(o p q r:Obj)(cs:Array Value)(t:TypeId):Blk (((((w.alloc o).alloc p).alloc q).alloc r).alloc (.cells cs t)) (w.heap.size+1+1+1+1) cs t:=by
 have h:=Blk.new ((((w.alloc o).alloc p).alloc q).alloc r) cs t
 rwa [show ((((w.alloc o).alloc p).alloc q).alloc r).heap.size=w.heap.size+1+1+1+1 by simp] at h
theorem blk_new5(w:World)(o p q r s:Obj)(cs:Array Value)(t:TypeId):Blk ((((((w.alloc o).alloc p).alloc q).alloc r).alloc s).alloc (.cells cs t)) (w.heap.size+1+1+1+1+1) cs t:=by
 have h:=Blk.new (((((w.alloc o).alloc p).alloc q).alloc r).alloc s) cs t
 rwa [show (((((w.alloc o).alloc p).alloc q).alloc r).alloc s).heap.size=w.heap.size+1+1+1+1+1 by simp] at h
theorem wp_letOp1{P:Program}{o:Oper}{a:Act}{w:World}{K:Act→World→Prop}{Q:Exit→Act→World→Prop}(ty:TypeId)(x y:Operand)(ho:o.op=.store ty x y)
  (g off:Nat) (hx:a.eval x=.pointer (some ⟨g,off,none⟩)) (v:Value) (hy:a.eval y=v) (hv:v.cells=#[v]) (hi:(P.info? ty).map (·.size)=some 1) (h1:v.oneCell'=true)
  (cs:Array Value) (t:TypeId) (hB:Blk w g cs t) (hin:off<cs.size) (hd:o.dst=none)
  (h:∀W,Upd w W g (cs.setIfInBounds off v) t→K a W):o.wp P a w K Q:=by
 have b:=run_storeVar_let (P:=P) (w:=w) (g:=g) (off:=off) (ty:=ty) (t:=t) (v:=v) (cells:=#[v]) (cs:=cs) hv (by simpa using hi) (by simpa using h1) hB (by simp;omega);have c:=upd_cells g t [v] off w cs hB;unfold Oper.wp execOp;simp only[ho,hx,hy,Instr.storeAt,Instr.sureAddr,Sem.run_bind,Sem.run_pure,Result.andThen_ok,b];have:=h _ c;have e:a.put o.dst undef=a:=by rw[hd];rfl
 rw[← e] at this;exact this
end acc
namespace deb
open tar (Du du0 Came TwoPost)
open Go.RowKit
def KdRec:Prop:=∀(W:World)(a:Option Addr)(len cap:Nat)(ls:List Du)(t bp:Int),Came W a len cap ls→(Lit.int .i64 t).wf=true→(Lit.int .i64 bp).wf=true→zC 67 #[.slice a len cap,zI t,zI bp] W λe w'=>RecPost W ls t bp e w'
open tar (RowD Ld ErrPost PairT GaveD)
def SharePost(ls:List Du)(t bp:Int)(w:World)(e:Ending)(w':World):Prop:=∃s f,e=.returned (.tuple #[zI s,zI f])∧((¬ Mays ls∧FaultIs ls f∧s=0)∨(Mays ls∧ShareIs t bp s f))∧zB w w'
theorem pshare(a:Option Addr)(len cap:Nat)(ls:List Du)(t bp:Int)(w:World)(hr:RowD w a len ls)(hl:len≤maxLen):Calls Tryz.prog 99 #[.slice a len cap,zI t,zI bp] w λe w'=>SharePost ls t bp w e w':=by
 have q:Hid (zC 142 #[.slice a len cap] w λe w'=>∃f,e=.returned (zI f)∧FaultIs ls f∧zB w w'):=pcheck a len cap ls w hr hl;have b:Hid (∀W,zC 145 #[zI 0,zI 100000000,zI t] W λe w'=>e=.returned (.bool (decide (0≤t∧t≤100000000)))∧w'=W):=λW=>dwithin 0 100000000 t W;clear hr hl;go_enter Tryz.func99,Tryz.ntmps99;go_wp2_with fail;refine q.o.mono ?_;rintro e z ⟨f,rfl,hf,n⟩;have g:Hid (zB w z):=n;have u:Hid (FaultIs ls f):=hf;clear n;by_cases p:f=0
 ·subst p;have r:Hid (Mays ls):=hf.ok.1 rfl;clear hf;by_cases i:0≤t∧t≤100000000
  ·rw[decide_eq_true i] at b;by_cases l:0≤bp∧bp≤10000
   ·have k:Hid (∀W,zC 68 #[zI t,zI bp] W λe w'=>e=.returned (.tuple #[zI (t*bp/10000),zI 0])∧zB W w'):=λW=>cents.part_yes t bp W i.1 (by omega) l.1 l.2;have m:Hid (TMay t bp):=⟨i,l⟩
    clear i l;go_wp2_with fail;refine(b.o _).mono ?_;rintro e s ⟨rfl,d⟩;subst d;go_wp2_with fail;refine(k.o _).mono ?_;rintro e A ⟨rfl,c⟩;have j:=shB g c;clear c;go_wp2_with fail;go_ret2;exact⟨_,_,rfl,.inr ⟨r.o,.inl ⟨m.o,rfl,rfl⟩⟩,j.o⟩
   ·have k:Hid (∀W,zC 68 #[zI t,zI bp] W λe w'=>e=.returned (.tuple #[zI 0,zI 2])∧zB W w'):=λW=>cents.part_no t bp W (.inr (by omega));have m:Hid (¬ TMay t bp):=λh=>l h.2;clear i l;go_wp2_with fail;refine(b.o _).mono ?_;rintro e s ⟨rfl,d⟩;subst d;go_wp2_with fail;refine(k.o _).mono ?_;rintro e A ⟨rfl,c⟩;have j:=shB g c;clear c;go_wp2_with fail;go_ret2;exact⟨_,_,rfl,.inr ⟨r.o,.inr ⟨m.o,rfl,rfl⟩⟩,j.o⟩
  ·rw[decide_eq_false i] at b;have m:Hid (¬ TMay t bp):=λh=>i h.1;clear i;go_wp2_with fail;refine(b.o _).mono ?_;rintro e s ⟨rfl,d⟩;subst d;go_wp2_with fail;go_ret2;exact⟨_,_,rfl,.inr ⟨r.o,.inr ⟨m.o,rfl,rfl⟩⟩,g.o⟩
 ·have y:(f != 0)=true:=by simpa using p
  have x:Hid (¬ Mays ls):=λh=>p (hf.ok.2 h);clear hf p;go_wp2_with fail;go_ret2;exact⟨_,_,rfl,.inl ⟨x.o,u.o,rfl⟩,g.o⟩
end deb
namespace tar
open Go.RowKit
def KtMost:Prop:=∀(W:World)(a:Option Addr)(len cap:Nat)(ls:List Du)(x n:Int),Came W a len cap ls→(Lit.int .i64 x).wf=true→(Lit.int .i64 n).wf=true→zC 69 #[.slice a len cap,zI x,zI n] W λe w'=>ThreePost W (MostIs ls x n) e w'
end tar
namespace deb
open tar (Du du0 Came RowD Ld ErrPost TwoPost PairT GaveD)
open Go.RowKit
theorem ktotal:KdTotal:=by
 intro w a len c g b;have s:=b.row;have p:Hid (zC 142 #[.slice a len c] w λe j=>∃f,e=.returned (zI f)∧FaultIs g f∧zB w j):=pcheck a len c g w s b.most;have r:Hid (Mays g→∀W,zB w W→zC 143 #[.slice a len c] W λe j=>e=.returned (zI (sumD g))∧zB W j):=λm W x=>powed a len c g W (s.below x) m;clear b s;go_enter Tryz.func96,Tryz.ntmps96;go_wp2_with fail;refine p.o.mono ?_;rintro e k ⟨f,rfl,hf,h⟩;have d:Hid (zB w k):=h;have t:Hid (FaultIs g f):=hf;clear h;by_cases l:f=0
 ·subst l;have m:=hf.ok.1 rfl;have q:Hid (zC 143 #[.slice a len c] k λe j=>e=.returned (zI (sumD g))∧zB k j):=r.o m k d.o;clear hf m;go_wp2_with fail;refine q.o.mono ?_;rintro e z ⟨rfl,i⟩;have n:=shB d i;clear i;go_wp2_with fail;go_ret2;exact⟨_,_,rfl,⟨t.o,.inl ⟨rfl,rfl⟩⟩,n.o⟩
 ·have y:(f != 0)=true:=by simpa using l
  have u:Hid (f≠0):=l;clear hf l;go_wp2_with fail;go_ret2;exact⟨_,_,rfl,⟨t.o,.inr ⟨u.o,rfl⟩⟩,d.o⟩
end deb
namespace acc
open tar (Du du0 Came RowD Ld PairT)
open Go.RowKit
set_option maxRecDepth 100000
set_option maxHeartbeats 4000000 in
theorem powe(g : Nat)(x : Ac)(p : Option Addr)(len cap : Nat)(q : Du)(w : World)(hw : Blk w g (wcs x bi0 p len cap) 132)(hl : Ld 42 w (g + 1) (.slice p len cap) x.ds)(ha : AMay x): Calls Tryz.prog 191 #[.pointer (some ⟨g, 0, none⟩), .agg #[.int .i64 q.a, .int .i64 q.b]] w λe w' => WPost w g (Or0 (λy _ f => OweIs x q y f)) e w' := by
 have hgl := hw.lt
 have hdm := ha.1
 have hle : x.ds.length = len := by obtain⟨a0, c0, hv, _⟩ := hl.row; injection hv with _ h2 _; exact h2.symm
 have HDF : Hid (deb.Fresh w (g + 1) p len cap x.ds) := by
  obtain⟨a0, c0, hv, hf⟩ := deb.ld_fresh hl hdm
  injection hv with h1 h2 h3
  rw[h1, h2, h3]; exact hf
 have hl8 : len ≤ 8 := by have := hdm.1; omega
 have HM := zh ha
 have HI1 : Hid (∀W, zC 66 #[.int .i64 1, .int .i64 1000000000, .int .i64 q.a] W λe w' => e=.returned (.bool (decide (1 ≤ q.a ∧ q.a ≤ 1000000000))) ∧ w' = W) := λW => awithin 1 1000000000 q.a W
 have HI2 : Hid (∀W, zC 66 #[.int .i64 0, .int .i64 10000, .int .i64 q.b] W λe w' => e=.returned (.bool (decide (0 ≤ q.b ∧ q.b ≤ 10000))) ∧ w' = W) := λW => awithin 0 10000 q.b W
 have HOW : Hid (∀(e : some w.heap.size = (Value.slice p len cap).ownBlock), False) := λe => by have := (World.ownsRow.lt hl _ e.symm).2; omega
 have H0B : Hid (zB w (w.alloc (.cells #[.int .i64 q.a, .int .i64 q.b] 42))) := (Below.refl w.heap.size w).alloc (by simp) _
 have H0e : Hid (Blk (w.alloc (.cells #[.int .i64 q.a, .int .i64 q.b] 42)) w.heap.size #[.int .i64 q.a, .int .i64 q.b] 42) := Blk.new w _ _
 have H0g : Hid (Blk (w.alloc (.cells #[.int .i64 q.a, .int .i64 q.b] 42)) g #[.int .i64 x.me, .int .i64 x.rv, .int .i64 x.nx, .int .i64 x.mo, .int .i64 x.bo, .int .i64 x.fr, .slice p len cap, .int .i64 0, .int .i64 0, .int .i64 0, .int .i64 0, .int .i64 0, .int .i64 0, .int .i64 0] 132) := hw.alloc _
 have H0L : Hid (Ld 42 (w.alloc (.cells #[.int .i64 q.a, .int .i64 q.b] 42)) (g + 1) (.slice p len cap) x.ds) := hl.alloc _
 have H0F := zh (HDF.out.below H0B.out)
 have H0G : Hid (Below g w (w.alloc (.cells #[.int .i64 q.a, .int .i64 q.b] 42))) := H0B.out.mono (by omega)
 have hsz := H0e.out.lt
 clear hw hl ha
 generalize hWW : (w.alloc (.cells #[.int .i64 q.a, .int .i64 q.b] 42)) = W0 at *
 have HWW := zh hWW
 clear hWW
 have e0 := H0e.out.cell 0
 have e1 := H0e.out.cell 1
 have g6 := H0g.out.cell 6
 go_enter Tryz.func191, Tryz.ntmps191
 go_upto_region 1 with fail
 rw[HWW.out]
 by_cases h1 : 1 ≤ q.a ∧ q.a ≤ 1000000000
 ·rw[decide_eq_true h1] at HI1
  go_wp2_with fail
  refine(HI1.out _).mono ?_
  rintro e wz ⟨rfl, hwz⟩
  subst wz
  by_cases h2 : 0 ≤ q.b ∧ q.b ≤ 10000
  ·rw[decide_eq_true h2] at HI2
   go_wp2_with fail
   refine(HI2.out _).mono ?_
   rintro e wz ⟨rfl, hwz⟩
   subst wz
   clear HI2
   by_cases h3 : len<8
   ·have d3 : ((len : Int)==8) = false := by simp; omega
    have HMN : Hid (deb.Mays (x.ds ++ [q])) := ⟨by rw [List.length_append, hle]; show len + 1 ≤ 8; omega, deb.fits_mem fun d hd => by
     rcases List.mem_append.1 hd with hd|hd
     ·exact deb.mem_fits hdm.2 d hd
     ·have e2 := List.mem_singleton.1 hd
      subst e2
      exact ⟨⟨by omega, h1.2⟩, h2⟩⟩
    have hzl : x.ds.length ≤ 1000000 := by omega
    have HV : Hid (Or0 (λy _ f => OweIs x q y f) ⟨x.me, x.rv, x.nx, x.mo, x.bo, x.fr, x.ds ++ [q]⟩ bi0 0) :=.inr ⟨rfl, .inr (.inr (.inr ⟨HM.out, ⟨h1, h2⟩, by rw[hle]; exact h3, rfl, rfl⟩))⟩
    have HZL : Hid (x.ds.length ≤ 1000000) := hzl
    clear h1 h2 h3 hdm hle hzl
    go_wp2_with fail
    clear e0 e1
    have HED : Hid (Blk W0.drew w.heap.size #[.int .i64 q.a, .int .i64 q.b] 42) := Blk.drew H0e.out 1
    have q6 : W0.drew.cell? ⟨g, 6, none⟩ = some (.slice p len cap) := H0g.out.cell 6
    have HEA : Hid (Blk (W0.alloc (.cells #[.int .i64 q.a, .int .i64 q.b] 42)).drew w.heap.size #[.int .i64 q.a, .int .i64 q.b] 42) := HED.out.alloc _
    have HGA : Hid (Blk (W0.alloc (.cells #[.int .i64 q.a, .int .i64 q.b] 42)).drew g #[.int .i64 x.me, .int .i64 x.rv, .int .i64 x.nx, .int .i64 x.mo, .int .i64 x.bo, .int .i64 x.fr, .slice p len cap, .int .i64 0, .int .i64 0, .int .i64 0, .int .i64 0, .int .i64 0, .int .i64 0, .int .i64 0] 132) := H0g.out.alloc _
    have HLA : Hid (Ld 42 (W0.alloc (.cells #[.int .i64 q.a, .int .i64 q.b] 42)).drew (g + 1) (.slice p len cap) x.ds) := H0L.out.alloc _
    have HCA : Hid ((W0.alloc (.cells #[.int .i64 q.a, .int .i64 q.b] 42)).drew.cell? ⟨W0.heap.size, 0, none⟩ = some (.int .i64 q.a) ∧ (W0.alloc (.cells #[.int .i64 q.a, .int .i64 q.b] 42)).drew.cell? ⟨W0.heap.size, 1, none⟩ = some (.int .i64 q.b)) := ⟨(Blk.new W0 _ _).cell 0, (Blk.new W0 _ _).cell 1⟩
    have HBA : Hid (Below g w (W0.alloc (.cells #[.int .i64 q.a, .int .i64 q.b] 42)).drew) := bel_drew (H0G.out.alloc (by omega) _) 1
    have hsA : W0.heap.size<(W0.alloc (.cells #[.int .i64 q.a, .int .i64 q.b] 42)).drew.heap.size := (Blk.new W0 #[.int .i64 q.a, .int .i64 q.b] 42).lt
    refine wp_region_held_drew (S := λv => Blk v (w.heap.size) #[.int .i64 q.a, .int .i64 q.b] 42) (by kernel_rfl) HED.out (λhHeld => ?_)
    refine zt' 0 (.pointer (some ⟨g, 0, none⟩)) ?_
    refine zt' 1 (.pointer (some ⟨g, 0, none⟩)) ?_
    refine zt' 2 (.pointer (some ⟨g, 0, none⟩)) ?_
    refine zt' 3 (.pointer (some ⟨g, 0, none⟩)) ?_
    refine zt' 4 (.pointer (some ⟨g, 6, none⟩)) ?_
    refine zu' 6 (.agg #[.int .i64 q.a, .int .i64 q.b]) rfl rfl (Or.inl ⟨by rfl, λv hv => by have g0 := hv.cell 0; have g1 := hv.cell 1; clear hv; go_simp⟩) ?_
    refine wpAnyH_ready (rs := [5, 7]) (by kernel_rfl) (by simp) (AllReadyH.cons rfl (λK hK => ?_) (AllReadyH.cons rfl (λK hK => ?_) AllReadyH.nil))
    all_goals rw[if_pos (by rfl)]
    ·refine wp_runOp (v :=.slice p len cap) (w' := W0.drew) 29 rfl (by clear hK; go_simp) ?_
     refine hK.out _ _ HED.out (λhHeld => ?_)
     clear hK K q6
     simp only[Act.put, zqa, zqb, zqc]
     refine zo 7 λK hK => ?_
     rw[if_pos (by rfl)]
     refine wp_runOp (v :=.slice (some ⟨W0.heap.size, 0, none⟩) 1 1) (w' := (W0.alloc (.cells #[.int .i64 q.a, .int .i64 q.b] 42)).drew) 31 rfl (by clear hK; go_simp) ?_
     refine hK.out _ _ HEA.out (λhHeld => ?_)
     clear hK K
     simp only[Act.put, zqa, zqb, zqc]
     generalize (W0.alloc (.cells #[.int .i64 q.a, .int .i64 q.b] 42)).drew = WA at *
     generalize W0.heap.size = hA at *
     refine zo 8 λK hK => ?_
     refine tar.step_pair deb.debtT rfl _ _ rfl (g + 1) hA (.slice p len cap) x.ds q rfl rfl HLA.out HCA.out HZL.out (by omega) ?_
     intro v5 w5 h5 hg5
     obtain⟨p5, c5, hv5, hf5⟩ := deb.ld_fresh h5 HMN.out
     subst hv5
     have H5g := zh (grown_blk HGA.out hg5 (tar.own_far HLA.out (by omega)))
     have H5e : Hid (Blk w5 w.heap.size #[.int .i64 q.a, .int .i64 q.b] 42) := grown_blk HEA.out hg5 (λe => HOW.out e)
     have H5B := zh (tar.own_bel HLA.out hg5 HBA.out (by omega) (by omega))
     have H5F := zh hf5
     refine hK.out _ _ H5e.out (λhHeld => ?_)
     clear hK K h5 hg5 hf5
     simp only[Act.put, zqa, zqb, zqc]
     generalize (x.ds ++ [q]).length = n5 at *
     refine zt' 9 (.pointer (some ⟨g, 0, none⟩)) ?_
     refine zt' 10 (.pointer (some ⟨g, 0, none⟩)) ?_
     refine zt' 11 (.pointer (some ⟨g, 6, none⟩)) ?_
     refine zo 12 λK hK => ?_
     rw[if_pos (by rfl)]
     refine wp_letOp1 53 _ _ rfl g 6 rfl (.slice p5 n5 c5) rfl rfl (by kernel_rfl) rfl #[.int .i64 x.me, .int .i64 x.rv, .int .i64 x.nx, .int .i64 x.mo, .int .i64 x.bo, .int .i64 x.fr, .slice p len cap, .int .i64 0, .int .i64 0, .int .i64 0, .int .i64 0, .int .i64 0, .int .i64 0, .int .i64 0] 132 H5g.out (by simp) rfl ?_
     intro W6 hU
     have H6g := zh hU.blk
     have H6e := zk1 hU H5e
     have H6B : Hid (Below g w W6) := hU.bel _ _ zc H5B.out
     have H6F := zh (fresh_chg H5F.out (.upd hU))
     refine hK.out _ _ H6e.out (λhHeld => ?_)
     clear hK K hU
     refine wpAnyH_done (by kernel_rfl) ?_ _
     clear hHeld
     go_wp2_with fail
     go_ret
     exact⟨⟨x.me, x.rv, x.nx, x.mo, x.bo, x.fr, x.ds ++ [q]⟩, bi0, p5, n5, c5, 0, rfl, HV.out, H6g.out, H6F.out, H6B.out⟩
    ·refine wp_runOp (v :=.slice (some ⟨W0.heap.size, 0, none⟩) 1 1) (w' := (W0.alloc (.cells #[.int .i64 q.a, .int .i64 q.b] 42)).drew) 31 rfl (by clear hK; go_simp) ?_
     refine hK.out _ _ HEA.out (λhHeld => ?_)
     clear hK K q6
     have q7 := HGA.out.cell 6
     simp only[Act.put, zqa, zqb, zqc]
     refine zo 5 λK hK => ?_
     rw[if_pos (by rfl)]
     refine wp_runOp (v :=.slice p len cap) (w' := (W0.alloc (.cells #[.int .i64 q.a, .int .i64 q.b] 42)).drew) 29 rfl (by clear hK; go_simp) ?_
     refine hK.out _ _ HEA.out (λhHeld => ?_)
     clear hK K q7
     simp only[Act.put, zqa, zqb, zqc]
     generalize (W0.alloc (.cells #[.int .i64 q.a, .int .i64 q.b] 42)).drew = WA at *
     generalize W0.heap.size = hA at *
     refine zo 8 λK hK => ?_
     refine tar.step_pair deb.debtT rfl _ _ rfl (g + 1) hA (.slice p len cap) x.ds q rfl rfl HLA.out HCA.out HZL.out (by omega) ?_
     intro v5 w5 h5 hg5
     obtain⟨p5, c5, hv5, hf5⟩ := deb.ld_fresh h5 HMN.out
     subst hv5
     have H5g := zh (grown_blk HGA.out hg5 (tar.own_far HLA.out (by omega)))
     have H5e : Hid (Blk w5 w.heap.size #[.int .i64 q.a, .int .i64 q.b] 42) := grown_blk HEA.out hg5 (λe => HOW.out e)
     have H5B := zh (tar.own_bel HLA.out hg5 HBA.out (by omega) (by omega))
     have H5F := zh hf5
     refine hK.out _ _ H5e.out (λhHeld => ?_)
     clear hK K h5 hg5 hf5
     simp only[Act.put, zqa, zqb, zqc]
     generalize (x.ds ++ [q]).length = n5 at *
     refine zt' 9 (.pointer (some ⟨g, 0, none⟩)) ?_
     refine zt' 10 (.pointer (some ⟨g, 0, none⟩)) ?_
     refine zt' 11 (.pointer (some ⟨g, 6, none⟩)) ?_
     refine zo 12 λK hK => ?_
     rw[if_pos (by rfl)]
     refine wp_letOp1 53 _ _ rfl g 6 rfl (.slice p5 n5 c5) rfl rfl (by kernel_rfl) rfl #[.int .i64 x.me, .int .i64 x.rv, .int .i64 x.nx, .int .i64 x.mo, .int .i64 x.bo, .int .i64 x.fr, .slice p len cap, .int .i64 0, .int .i64 0, .int .i64 0, .int .i64 0, .int .i64 0, .int .i64 0, .int .i64 0] 132 H5g.out (by simp) rfl ?_
     intro W6 hU
     have H6g := zh hU.blk
     have H6e := zk1 hU H5e
     have H6B : Hid (Below g w W6) := hU.bel _ _ zc H5B.out
     have H6F := zh (fresh_chg H5F.out (.upd hU))
     refine hK.out _ _ H6e.out (λhHeld => ?_)
     clear hK K hU
     refine wpAnyH_done (by kernel_rfl) ?_ _
     clear hHeld
     go_wp2_with fail
     go_ret
     exact⟨⟨x.me, x.rv, x.nx, x.mo, x.bo, x.fr, x.ds ++ [q]⟩, bi0, p5, n5, c5, 0, rfl, HV.out, H6g.out, H6F.out, H6B.out⟩
   ·have d3 : ((len : Int)==8) = true := by simp; omega
    have HV : Hid (Or0 (λy _ f => OweIs x q y f) x bi0 16) :=.inl ⟨by decide, .inr (.inr (.inl ⟨HM.out, ⟨h1, h2⟩, by rw[hle]; exact h3, rfl, rfl⟩))⟩
    clear h1 h2 h3
    go_wp2_with fail
    go_ret
    exact⟨x, bi0, p, len, cap, 16, rfl, HV.out, H0g.out, H0F.out, H0G.out⟩
  ·rw[decide_eq_false h2] at HI2
   have HV : Hid (Or0 (λy _ f => OweIs x q y f) x bi0 2) :=.inl ⟨by decide, .inr (.inl ⟨HM.out, λhh => h2 hh.2, rfl, rfl⟩)⟩
   clear h2
   go_wp2_with fail
   refine(HI2.out _).mono ?_
   rintro e wz ⟨rfl, hwz⟩
   subst wz
   go_wp2_with fail
   all_goals first
    |(rename_i q1 q2; exact absurd q1 (by simp[undef]))
    |(go_ret; exact⟨x, bi0, p, len, cap, 2, rfl, HV.out, H0g.out, H0F.out, H0G.out⟩)
 ·rw[decide_eq_false h1] at HI1
  have HV : Hid (Or0 (λy _ f => OweIs x q y f) x bi0 2) :=.inl ⟨by decide, .inr (.inl ⟨HM.out, λhh => h1 hh.1, rfl, rfl⟩)⟩
  clear h1
  go_wp2_with fail
  refine(HI1.out _).mono ?_
  rintro e wz ⟨rfl, hwz⟩
  subst wz
  go_wp2_with fail
  all_goals first
   |(rename_i q1 q2; exact absurd q1 (by simp[undef]))
   |(go_ret; exact⟨x, bi0, p, len, cap, 2, rfl, HV.out, H0g.out, H0F.out, H0G.out⟩)
end acc
namespace book
open Go.RowKit cell
def EncGot(w:World)(v:Ev)(e:Ending)(w':World):Prop:=∃a n cap ws f,e=.returned (.tuple #[.slice a n cap,zI f])∧EncIs v ws f∧RowU w' a n ws∧(a=none→cap=0)∧n≤cap∧n≤13∧zB w w'
def KEnc:Prop:=∀(W:World)(v:Ev),wf13 v→zC 76 #[v.v] W λe w'=>EncGot W v e w'
end book
end Go.Proofs.YtoepgdhiepedeaaGreatDoor
