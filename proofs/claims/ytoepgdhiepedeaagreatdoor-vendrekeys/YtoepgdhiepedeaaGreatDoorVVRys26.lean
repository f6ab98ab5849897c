import Derived.Test.YtoepgdhiepedeaaGreatDoorVVRys22
import Derived.Test.YtoepgdhiepedeaaGreatDoorVVRys25
set_option linter.unusedVariables false
set_option linter.unusedSimpArgs false
set_option maxHeartbeats 4000000
set_option maxRecDepth 100000
namespace Go.Proofs.YtoepgdhiepedeaaGreatDoor
namespace disk
open Go.RowKit cell
def RepPost(w:World)(c:List Int)(e:Ending)(w':World):Prop:=
 ∃V sl out x f,e=.returned (.tuple #[V,zI x,zI f])∧Lr 25 w' w.heap.size V sl∧Recs w' V.ownBlock sl out∧RepIs c out x f∧zB w w'
theorem rec_at{c:List Int}{p m x:Nat}(hm:(c.getD p 0).toNat=m)(hx:x<m):(recAt c p).getD x 0=c.getD (p+1+x) 0:=by
 unfold recAt;rw[hm];simp[List.getD,List.getElem?_drop,hx]
theorem rec_len{c:List Int}{p m:Nat}(hm:(c.getD p 0).toNat=m)(hf:p+m<c.length):(recAt c p).length=m:=by
 unfold recAt;rw[hm,List.length_take,List.length_drop];omega
end disk
namespace vnd
open book (Ev ev0 Cm cm0 So so0 Sees)
open acc (Ac Tm Bi)
open ora (Pr)
open cell (Wr RowU RowW)
open rcp (Rc rc0)
open Go.RowKit
def KvRekey(w0:World):Prop:=∀(W:World)(t:Tm)(pt:Option Addr)(lt ct:Nat)(a:Option Addr)(n cap:Nat)(c:List Int)(ao:Option Addr)(no ko:Nat)(o:List Pr)(me dr:Int),zB w0 W→acc.TCame W t pt lt ct→Dk W a n cap c→ora.Came W ao no ko o→(Lit.int .i64 me).wf=true→(Lit.int .i64 dr).wf=true→zC 15 #[t.v pt lt ct,.slice a n cap,.agg #[.slice ao no ko],zI me,zI dr] W λe w'=>TokGot W (TokIs 4 t c o me 0 0 dr) e w'
end vnd
namespace book
open Go.RowKit
open acc (Ac Tm Bi APost BPost OweIs SellIs GrantIs RekeyIs)
theorem rhap(a:Ac)(sol:List So)(dp:Option Addr)(dn dc:Nat)(sp:Option Addr)(sn sc:Nat)(t:Tm)(pt:Option Addr)(lt ct:Nat)(v:Ev)(base:Nat)(w:World)(hx:Has w base (cuA a dp dn dc sp sn sc) ⟨a,sol⟩)(ht:tar.RowD w pt lt t.ts)(htl:lt≤maxLen)(hbase:base≤w.heap.size)(hkd:v.kd=2∨v.kd=3∨v.kd=4∨v.kd=5)(hsol:sol.length≤2000000)(hrv:0≤a.rv∧a.rv≤15):
  Calls Tryz.prog 85 #[.agg #[.slice pt lt ct,zI t.ff,zI t.fb,zI t.db,zI t.al],.agg #[zI a.me,zI a.rv,zI a.nx,zI a.mo,zI a.bo,zI a.fr,.slice dp dn dc,.slice sp sn sc],.agg #[zI v.kd,zI v.me,zI v.mo,zI v.id,zI v.te,zI v.de,zI v.fe,zI v.pr,zI v.ch,zI v.un,zI v.tg,zI v.ow,zI v.bp]] w λe w'=>HapPost w base t (cuA a dp dn dc sp sn sc) ⟨a,sol⟩ v e w':=by
 rcases hkd with h|h|h|h
 ·exact rhap2 a sol dp dn dc sp sn sc t pt lt ct v base w hx ht htl hbase h hsol
 ·exact rhap3 a sol dp dn dc sp sn sc t pt lt ct v base w hx ht htl hbase h hsol
 ·exact rhap4 a sol dp dn dc sp sn sc t pt lt ct v base w hx ht htl hbase h hsol hrv
 ·exact rhap5 a sol dp dn dc sp sn sc t pt lt ct v base w hx ht htl hbase h
end book
namespace rcp
open Go.RowKit
theorem reI(d:Nat)(a a':Int)(w:World):(Op.equalIn (d+1) 3 (zI a) (zI a')).run Tryz.prog w=.ok (a==a') w:=run_equalIn_int w d _ _ _ a a' Tryz.underlying3
theorem rp0(a b c d e f g h:Int)(t:ByteArray)(w:World):(part 3 #[zI a,zI b,zI c,zI d,zI e,zI f,zI g,zI h,.string t] 0).run Tryz.prog w=.ok (zI a) w:=by kernel_rfl
theorem rp1(a b c d e f g h:Int)(t:ByteArray)(w:World):(part 33 #[zI a,zI b,zI c,zI d,zI e,zI f,zI g,zI h,.string t] 1).run Tryz.prog w=.ok (.agg #[zI b,zI c,zI d,zI e,zI f,zI g,zI h]) w:=by kernel_rfl
theorem rp8(a b c d e f g h:Int)(t:ByteArray)(w:World):(part 9 #[zI a,zI b,zI c,zI d,zI e,zI f,zI g,zI h,.string t] 8).run Tryz.prog w=.ok (.string t) w:=by kernel_rfl
theorem rb0(b c d e f g h:Int)(w:World):(part 3 #[zI b,zI c,zI d,zI e,zI f,zI g,zI h] 0).run Tryz.prog w=.ok (zI b) w:=by kernel_rfl
theorem rb1(b c d e f g h:Int)(w:World):(part 3 #[zI b,zI c,zI d,zI e,zI f,zI g,zI h] 1).run Tryz.prog w=.ok (zI c) w:=by kernel_rfl
theorem rb2(b c d e f g h:Int)(w:World):(part 3 #[zI b,zI c,zI d,zI e,zI f,zI g,zI h] 2).run Tryz.prog w=.ok (zI d) w:=by kernel_rfl
theorem rb3(b c d e f g h:Int)(w:World):(part 3 #[zI b,zI c,zI d,zI e,zI f,zI g,zI h] 3).run Tryz.prog w=.ok (zI e) w:=by kernel_rfl
theorem rb4(b c d e f g h:Int)(w:World):(part 3 #[zI b,zI c,zI d,zI e,zI f,zI g,zI h] 4).run Tryz.prog w=.ok (zI f) w:=by kernel_rfl
theorem rb5(b c d e f g h:Int)(w:World):(part 3 #[zI b,zI c,zI d,zI e,zI f,zI g,zI h] 5).run Tryz.prog w=.ok (zI g) w:=by kernel_rfl
theorem rb6(b c d e f g h:Int)(w:World):(part 3 #[zI b,zI c,zI d,zI e,zI f,zI g,zI h] 6).run Tryz.prog w=.ok (zI h) w:=by kernel_rfl
theorem eqB(k:Nat)(b c d e f g h:Int)(w:World):(Op.equalIn (k+2) 33 (.agg #[zI b,zI c,zI d,zI e,zI f,zI g,zI h]) (.agg #[zI b,zI c,zI d,zI e,zI f,zI g,zI h])).run Tryz.prog w=.ok true w:=by
 rw[show k+2=(k+1)+1 from rfl,run_equalIn_agg w (k+1) 33 _ _ (by kernel_rfl) (by kernel_rfl)];simp only[Program.fieldsOf,Tryz.underlying33,Op.eqFields,Sem.run_bind,Sem.run_ite];simp[rb0,rb1,rb2,rb3,rb4,rb5,rb6,reI]
theorem reS(d:Nat)(t:ByteArray)(w:World):(Op.equalIn (d+1) 9 (.string t) (.string t)).run Tryz.prog w=.ok true w:=by
 have h:(t==t)=true:=by
  first
   |exact beq_self_eq_true t
   |exact BEq.rfl
   |(cases t with|mk d=>exact beq_self_eq_true d)
   |(cases t with|mk d=>simp[BEq.beq])
 simp[Op.equalIn,Tryz.underlying9,go_sem,h]
theorem eqRc(a b c d e f g h:Int)(t:ByteArray)(w:World):(Op.equalIn 10000 35 (.agg #[zI a,zI b,zI c,zI d,zI e,zI f,zI g,zI h,.string t]) (.agg #[zI a,zI b,zI c,zI d,zI e,zI f,zI g,zI h,.string t])).run Tryz.prog w=.ok true w:=by
 rw[show (10000:Nat)=9999+1 from rfl,run_equalIn_agg w 9999 35 _ _ (by kernel_rfl) (by kernel_rfl)];simp only[Program.fieldsOf,Tryz.underlying35,Op.eqFields,Sem.run_bind,Sem.run_ite];simp[rp0,rp1,rp8,show (9999:Nat)=9998+1 from rfl,show (9999:Nat)=9997+2 from rfl,reI,reS,eqB]
end rcp
namespace book
open Go.RowKit
def leftE(v:Ev):Ev:=if v.kd=2 then ⟨0,0,0,0,0,0,0,0,0,0,0,v.ow,v.bp⟩ else if v.kd=3 then ⟨0,0,0,0,v.te,v.de,v.fe,v.pr,v.ch,0,0,v.ow,v.bp⟩ else if v.kd=4 then ⟨0,0,v.mo,0,v.te,v.de,v.fe,v.pr,v.ch,v.un,0,v.ow,v.bp⟩ else if v.kd=5 then ⟨0,0,v.mo,v.id,v.te,v.de,v.fe,v.pr,v.ch,v.un,v.tg,0,0⟩ else ⟨0,0,v.mo,v.id,v.te,v.de,v.fe,v.pr,v.ch,v.un,v.tg,v.ow,v.bp⟩
def Numd(id tg:Int):Prop:=(1≤id∧id≤1048575)∧0≤tg∧tg≤65535
def Unt(un:Int):Prop:=1≤un∧un≤2097151
def Mon(mo:Int):Prop:=0≤mo∧mo≤2399
def Mony(te de fe pr ch:Int):Prop:=(1≤te∧te≤100000000)∧((0≤de∧de≤100000000)∧(0≤fe∧fe≤100000000)∧(0≤pr∧pr≤100000000)∧0≤ch∧ch≤100000000)∧de+fe+pr+ch=te
def Dbt(ow bp:Int):Prop:=(1≤ow∧ow≤1000000000)∧0≤bp∧bp≤10000
def KindR(v:Ev):Prop:=v.kd=1∨(v.kd=2∧Mon v.mo∧Numd v.id v.tg∧Unt v.un∧Mony v.te v.de v.fe v.pr v.ch)∨(v.kd=3∧Mon v.mo∧Numd v.id v.tg∧Unt v.un)∨(v.kd=4∧Numd v.id v.tg)∨(v.kd=5∧Dbt v.ow v.bp)
theorem may_iff(v:Ev):EMay v↔(0≤v.me∧v.me≤49)∧KindR v∧leftE v=ev0:=by
 obtain⟨a,m,n,l,q,j,k,p,i,s,r,o,g⟩:=v;unfold EMay KindR leftE ev0 Numd Unt Mon Mony Dbt;simp only;by_cases b:a=1
 ·subst b;simp
 by_cases d:a=2
 ·subst d;simp;intro _ _;constructor<;>intro h<;>omega
 by_cases e:a=3
 ·subst e;simp;intro _ _;constructor<;>intro h<;>omega
 by_cases f:a=4
 ·subst f;simp;intro _ _;constructor<;>intro h<;>omega
 by_cases c:a=5
 ·subst c;simp;intro _ _;constructor<;>intro h<;>omega
 constructor
 ·rintro⟨_,h|h|h⟩
  ·exact absurd h.1 b
  ·exact absurd h.1 c
  ·have:=h.1;omega
 ·rintro⟨_,h|h|h|h|h,_⟩
  ·exact absurd h b
  ·exact absurd h.1 d
  ·exact absurd h.1 e
  ·exact absurd h.1 f
  ·exact absurd h.1 c
variable{v:Ev}
theorem kind_2(h:v.kd=2):KindR v↔Mon v.mo∧Numd v.id v.tg∧Unt v.un∧Mony v.te v.de v.fe v.pr v.ch:=by simp[KindR,h]
theorem kind_3(h:v.kd=3):KindR v↔Mon v.mo∧Numd v.id v.tg∧Unt v.un:=by simp[KindR,h]
theorem kind_4(h:v.kd=4):KindR v↔Numd v.id v.tg:=by simp[KindR,h]
theorem kind_5(h:v.kd=5):KindR v↔Dbt v.ow v.bp:=by simp[KindR,h]
def YN(w:World)(P:Prop)(e:Ending)(w':World):Prop:=∃B,e=.returned (.bool B)∧(B=true↔P)∧zB w w'
theorem YN.yes{w w':World}{P:Prop}(h:P)(hb:zB w w'):YN w P (.returned (.bool true)) w':=⟨true,rfl,⟨λ_=>h,λ_=>rfl⟩,hb⟩
theorem YN.no{w w':World}{P:Prop}(h:¬ P)(hb:zB w w'):YN w P (.returned (.bool false)) w':=⟨false,rfl,⟨λq=>(by cases q),λq=>absurd q h⟩,hb⟩
end book
namespace acc
open tar (Du du0 Came RowD Ld PairT)
open Go.RowKit
set_option maxRecDepth 100000
set_option maxHeartbeats 4000000 in
theorem powe(g : Nat)(x : Ac)(p : Option Addr)(len cap : Nat)(q : Du)(w : World)(hw : Blk w g (wcs x bi0 p len cap) 132)(hl : Ld 42 w (g + 1) (.slice p len cap) x.ds)(ha : AMay x): Calls Tryz.prog 191 #[.pointer (some ⟨g, 0, none⟩), .agg #[.int .i64 q.a, .int .i64 q.b]] w λe w' => WPost w g (Or0 (λy _ f => OweIs x q y f)) e w' := by
 have hgl := hw.lt
 have hdm := ha.1
 have hle : x.ds.length = len := by obtain⟨a0, c0, hv, _⟩ := hl.row; injection hv with _ h2 _; exact h2.symm
 have HDF : Hid (deb.Fresh w (g + 1) p len cap x.ds) := by
  obtain⟨a0, c0, hv, hf⟩ := deb.ld_fresh hl hdm
  injection hv with h1 h2 h3
  rw[h1, h2, h3]; exact hf
 have hl8 : len ≤ 8 := by have := hdm.1; omega
 have HM := zh ha
 have HI1 : Hid (∀W, zC 66 #[.int .i64 1, .int .i64 1000000000, .int .i64 q.a] W λe w' => e=.returned (.bool (decide (1 ≤ q.a ∧ q.a ≤ 1000000000))) ∧ w' = W) := λW => awithin 1 1000000000 q.a W
 have HI2 : Hid (∀W, zC 66 #[.int .i64 0, .int .i64 10000, .int .i64 q.b] W λe w' => e=.returned (.bool (decide (0 ≤ q.b ∧ q.b ≤ 10000))) ∧ w' = W) := λW => awithin 0 10000 q.b W
 have HOW : Hid (∀(e : some w.heap.size = (Value.slice p len cap).ownBlock), False) := λe => by have := (World.ownsRow.lt hl _ e.symm).2; omega
 have H0B : Hid (zB w (w.alloc (.cells #[.int .i64 q.a, .int .i64 q.b] 42))) := (Below.refl w.heap.size w).alloc (by simp) _
 have H0e : Hid (Blk (w.alloc (.cells #[.int .i64 q.a, .int .i64 q.b] 42)) w.heap.size #[.int .i64 q.a, .int .i64 q.b] 42) := Blk.new w _ _
 have H0g : Hid (Blk (w.alloc (.cells #[.int .i64 q.a, .int .i64 q.b] 42)) g #[.int .i64 x.me, .int .i64 x.rv, .int .i64 x.nx, .int .i64 x.mo, .int .i64 x.bo, .int .i64 x.fr, .slice p len cap, .int .i64 0, .int .i64 0, .int .i64 0, .int .i64 0, .int .i64 0, .int .i64 0, .int .i64 0] 132) := hw.alloc _
 have H0L : Hid (Ld 42 (w.alloc (.cells #[.int .i64 q.a, .int .i64 q.b] 42)) (g + 1) (.slice p len cap) x.ds) := hl.alloc _
 have H0F := zh (HDF.out.below H0B.out)
 have H0G : Hid (Below g w (w.alloc (.cells #[.int .i64 q.a, .int .i64 q.b] 42))) := H0B.out.mono (by omega)
 have hsz := H0e.out.lt
 clear hw hl ha
 generalize hWW : (w.alloc (.cells #[.int .i64 q.a, .int .i64 q.b] 42)) = W0 at *
 have HWW := zh hWW
 clear hWW
 have e0 := H0e.out.cell 0
 have e1 := H0e.out.cell 1
 have g6 := H0g.out.cell 6
 go_enter Tryz.func191, Tryz.ntmps191
 go_upto_region 1 with fail
 rw[HWW.out]
 by_cases h1 : 1 ≤ q.a ∧ q.a ≤ 1000000000
 ·rw[decide_eq_true h1] at HI1
  go_wp2_with fail
  refine(HI1.out _).mono ?_
  rintro e wz ⟨rfl, hwz⟩
  subst wz
  by_cases h2 : 0 ≤ q.b ∧ q.b ≤ 10000
  ·rw[decide_eq_true h2] at HI2
   go_wp2_with fail
   refine(HI2.out _).mono ?_
   rintro e wz ⟨rfl, hwz⟩
   subst wz
   clear HI2
   by_cases h3 : len<8
   ·have d3 : ((len : Int)==8) = false := by simp; omega
    have HMN : Hid (deb.Mays (x.ds ++ [q])) := ⟨by rw [List.length_append, hle]; show len + 1 ≤ 8; omega, deb.fits_mem fun d hd => by
     rcases List.mem_append.1 hd with hd|hd
     ·exact deb.mem_fits hdm.2 d hd
     ·have e2 := List.mem_singleton.1 hd
      subst e2
      exact ⟨⟨by omega, h1.2⟩, h2⟩⟩
    have hzl : x.ds.length ≤ 1000000 := by omega
    have HV : Hid (Or0 (λy _ f => OweIs x q y f) ⟨x.me, x.rv, x.nx, x.mo, x.bo, x.fr, x.ds ++ [q]⟩ bi0 0) :=.inr ⟨rfl, .inr (.inr (.inr ⟨HM.out, ⟨h1, h2⟩, by rw[hle]; exact h3, rfl, rfl⟩))⟩
    have HZL : Hid (x.ds.length ≤ 1000000) := hzl
    clear h1 h2 h3 hdm hle hzl
    go_wp2_with fail
    clear e0 e1
    have HED : Hid (Blk W0.drew w.heap.size #[.int .i64 q.a, .int .i64 q.b] 42) := Blk.drew H0e.out 1
    have q6 : W0.drew.cell? ⟨g, 6, none⟩ = some (.slice p len cap) := H0g.out.cell 6
    have HEA : Hid (Blk (W0.alloc (.cells #[.int .i64 q.a, .int .i64 q.b] 42)).drew w.heap.size #[.int .i64 q.a, .int .i64 q.b] 42) := HED.out.alloc _
    have HGA : Hid (Blk (W0.alloc (.cells #[.int .i64 q.a, .int .i64 q.b] 42)).drew g #[.int .i64 x.me, .int .i64 x.rv, .int .i64 x.nx, .int .i64 x.mo, .int .i64 x.bo, .int .i64 x.fr, .slice p len cap, .int .i64 0, .int .i64 0, .int .i64 0, .int .i64 0, .int .i64 0, .int .i64 0, .int .i64 0] 132) := H0g.out.alloc _
    have HLA : Hid (Ld 42 (W0.alloc (.cells #[.int .i64 q.a, .int .i64 q.b] 42)).drew (g + 1) (.slice p len cap) x.ds) := H0L.out.alloc _
    have HCA : Hid ((W0.alloc (.cells #[.int .i64 q.a, .int .i64 q.b] 42)).drew.cell? ⟨W0.heap.size, 0, none⟩ = some (.int .i64 q.a) ∧ (W0.alloc (.cells #[.int .i64 q.a, .int .i64 q.b] 42)).drew.cell? ⟨W0.heap.size, 1, none⟩ = some (.int .i64 q.b)) := ⟨(Blk.new W0 _ _).cell 0, (Blk.new W0 _ _).cell 1⟩
    have HBA : Hid (Below g w (W0.alloc (.cells #[.int .i64 q.a, .int .i64 q.b] 42)).drew) := bel_drew (H0G.out.alloc (by omega) _) 1
    have hsA : W0.heap.size<(W0.alloc (.cells #[.int .i64 q.a, .int .i64 q.b] 42)).drew.heap.size := (Blk.new W0 #[.int .i64 q.a, .int .i64 q.b] 42).lt
    refine wp_region_held_drew (S := λv => Blk v (w.heap.size) #[.int .i64 q.a, .int .i64 q.b] 42) (by kernel_rfl) HED.out (λhHeld => ?_)
    refine zt' 0 (.pointer (some ⟨g, 0, none⟩)) ?_
    refine zt' 1 (.pointer (some ⟨g, 0, none⟩)) ?_
    refine zt' 2 (.pointer (some ⟨g, 0, none⟩)) ?_
    refine zt' 3 (.pointer (some ⟨g, 0, none⟩)) ?_
    refine zt' 4 (.pointer (some ⟨g, 6, none⟩)) ?_
    refine zu' 6 (.agg #[.int .i64 q.a, .int .i64 q.b]) rfl rfl (Or.inl ⟨by rfl, λv hv => by have g0 := hv.cell 0; have g1 := hv.cell 1; clear hv; go_simp⟩) ?_
    refine wpAnyH_ready (rs := [5, 7]) (by kernel_rfl) (by simp) (AllReadyH.cons rfl (λK hK => ?_) (AllReadyH.cons rfl (λK hK => ?_) AllReadyH.nil))
    all_goals rw[if_pos (by rfl)]
    ·refine wp_runOp (v :=.slice p len cap) (w' := W0.drew) 29 rfl (by clear hK; go_simp) ?_
     refine hK.out _ _ HED.out (λhHeld => ?_)
     clear hK K q6
     simp only[Act.put, zqa, zqb, zqc]
     refine zo 7 λK hK => ?_
     rw[if_pos (by rfl)]
     refine wp_runOp (v :=.slice (some ⟨W0.heap.size, 0, none⟩) 1 1) (w' := (W0.alloc (.cells #[.int .i64 q.a, .int .i64 q.b] 42)).drew) 31 rfl (by clear hK; go_simp) ?_
     refine hK.out _ _ HEA.out (λhHeld => ?_)
     clear hK K
     simp only[Act.put, zqa, zqb, zqc]
     generalize (W0.alloc (.cells #[.int .i64 q.a, .int .i64 q.b] 42)).drew = WA at *
     generalize W0.heap.size = hA at *
     refine zo 8 λK hK => ?_
     refine tar.step_pair deb.debtT rfl _ _ rfl (g + 1) hA (.slice p len cap) x.ds q rfl rfl HLA.out HCA.out HZL.out (by omega) ?_
     intro v5 w5 h5 hg5
     obtain⟨p5, c5, hv5, hf5⟩ := deb.ld_fresh h5 HMN.out
     subst hv5
     have H5g := zh (grown_blk HGA.out hg5 (tar.own_far HLA.out (by omega)))
     have H5e : Hid (Blk w5 w.heap.size #[.int .i64 q.a, .int .i64 q.b] 42) := grown_blk HEA.out hg5 (λe => HOW.out e)
     have H5B := zh (tar.own_bel HLA.out hg5 HBA.out (by omega) (by omega))
     have H5F := zh hf5
     refine hK.out _ _ H5e.out (λhHeld => ?_)
     clear hK K h5 hg5 hf5
     simp only[Act.put, zqa, zqb, zqc]
     generalize (x.ds ++ [q]).length = n5 at *
     refine zt' 9 (.pointer (some ⟨g, 0, none⟩)) ?_
     refine zt' 10 (.pointer (some ⟨g, 0, none⟩)) ?_
     refine zt' 11 (.pointer (some ⟨g, 6, none⟩)) ?_
     refine zo 12 λK hK => ?_
     rw[if_pos (by rfl)]
     refine wp_letOp1 53 _ _ rfl g 6 rfl (.slice p5 n5 c5) rfl rfl (by kernel_rfl) rfl #[.int .i64 x.me, .int .i64 x.rv, .int .i64 x.nx, .int .i64 x.mo, .int .i64 x.bo, .int .i64 x.fr, .slice p len cap, .int .i64 0, .int .i64 0, .int .i64 0, .int .i64 0, .int .i64 0, .int .i64 0, .int .i64 0] 132 H5g.out (by simp) rfl ?_
     intro W6 hU
     have H6g := zh hU.blk
     have H6e := zk1 hU H5e
     have H6B : Hid (Below g w W6) := hU.bel _ _ zc H5B.out
     have H6F := zh (fresh_chg H5F.out (.upd hU))
     refine hK.out _ _ H6e.out (λhHeld => ?_)
     clear hK K hU
     refine wpAnyH_done (by kernel_rfl) ?_ _
     clear hHeld
     go_wp2_with fail
     go_ret
     exact⟨⟨x.me, x.rv, x.nx, x.mo, x.bo, x.fr, x.ds ++ [q]⟩, bi0, p5, n5, c5, 0, rfl, HV.out, H6g.out, H6F.out, H6B.out⟩
    ·refine wp_runOp (v :=.slice (some ⟨W0.heap.size, 0, none⟩) 1 1) (w' := (W0.alloc (.cells #[.int .i64 q.a, .int .i64 q.b] 42)).drew) 31 rfl (by clear hK; go_simp) ?_
     refine hK.out _ _ HEA.out (λhHeld => ?_)
     clear hK K q6
     have q7 := HGA.out.cell 6
     simp only[Act.put, zqa, zqb, zqc]
     refine zo 5 λK hK => ?_
     rw[if_pos (by rfl)]
     refine wp_runOp (v :=.slice p len cap) (w' := (W0.alloc (.cells #[.int .i64 q.a, .int .i64 q.b] 42)).drew) 29 rfl (by clear hK; go_simp) ?_
     refine hK.out _ _ HEA.out (λhHeld => ?_)
     clear hK K q7
     simp only[Act.put, zqa, zqb, zqc]
     generalize (W0.alloc (.cells #[.int .i64 q.a, .int .i64 q.b] 42)).drew = WA at *
     generalize W0.heap.size = hA at *
     refine zo 8 λK hK => ?_
     refine tar.step_pair deb.debtT rfl _ _ rfl (g + 1) hA (.slice p len cap) x.ds q rfl rfl HLA.out HCA.out HZL.out (by omega) ?_
     intro v5 w5 h5 hg5
     obtain⟨p5, c5, hv5, hf5⟩ := deb.ld_fresh h5 HMN.out
     subst hv5
     have H5g := zh (grown_blk HGA.out hg5 (tar.own_far HLA.out (by omega)))
     have H5e : Hid (Blk w5 w.heap.size #[.int .i64 q.a, .int .i64 q.b] 42) := grown_blk HEA.out hg5 (λe => HOW.out e)
     have H5B := zh (tar.own_bel HLA.out hg5 HBA.out (by omega) (by omega))
     have H5F := zh hf5
     refine hK.out _ _ H5e.out (λhHeld => ?_)
     clear hK K h5 hg5 hf5
     simp only[Act.put, zqa, zqb, zqc]
     generalize (x.ds ++ [q]).length = n5 at *
     refine zt' 9 (.pointer (some ⟨g, 0, none⟩)) ?_
     refine zt' 10 (.pointer (some ⟨g, 0, none⟩)) ?_
     refine zt' 11 (.pointer (some ⟨g, 6, none⟩)) ?_
     refine zo 12 λK hK => ?_
     rw[if_pos (by rfl)]
     refine wp_letOp1 53 _ _ rfl g 6 rfl (.slice p5 n5 c5) rfl rfl (by kernel_rfl) rfl #[.int .i64 x.me, .int .i64 x.rv, .int .i64 x.nx, .int .i64 x.mo, .int .i64 x.bo, .int .i64 x.fr, .slice p len cap, .int .i64 0, .int .i64 0, .int .i64 0, .int .i64 0, .int .i64 0, .int .i64 0, .int .i64 0] 132 H5g.out (by simp) rfl ?_
     intro W6 hU
     have H6g := zh hU.blk
     have H6e := zk1 hU H5e
     have H6B : Hid (Below g w W6) := hU.bel _ _ zc H5B.out
     have H6F := zh (fresh_chg H5F.out (.upd hU))
     refine hK.out _ _ H6e.out (λhHeld => ?_)
     clear hK K hU
     refine wpAnyH_done (by kernel_rfl) ?_ _
     clear hHeld
     go_wp2_with fail
     go_ret
     exact⟨⟨x.me, x.rv, x.nx, x.mo, x.bo, x.fr, x.ds ++ [q]⟩, bi0, p5, n5, c5, 0, rfl, HV.out, H6g.out, H6F.out, H6B.out⟩
   ·have d3 : ((len : Int)==8) = true := by simp; omega
    have HV : Hid (Or0 (λy _ f => OweIs x q y f) x bi0 16) :=.inl ⟨by decide, .inr (.inr (.inl ⟨HM.out, ⟨h1, h2⟩, by rw[hle]; exact h3, rfl, rfl⟩))⟩
    clear h1 h2 h3
    go_wp2_with fail
    go_ret
    exact⟨x, bi0, p, len, cap, 16, rfl, HV.out, H0g.out, H0F.out, H0G.out⟩
  ·rw[decide_eq_false h2] at HI2
   have HV : Hid (Or0 (λy _ f => OweIs x q y f) x bi0 2) :=.inl ⟨by decide, .inr (.inl ⟨HM.out, λhh => h2 hh.2, rfl, rfl⟩)⟩
   clear h2
   go_wp2_with fail
   refine(HI2.out _).mono ?_
   rintro e wz ⟨rfl, hwz⟩
   subst wz
   go_wp2_with fail
   all_goals first
    |(rename_i q1 q2; exact absurd q1 (by simp[undef]))
    |(go_ret; exact⟨x, bi0, p, len, cap, 2, rfl, HV.out, H0g.out, H0F.out, H0G.out⟩)
 ·rw[decide_eq_false h1] at HI1
  have HV : Hid (Or0 (λy _ f => OweIs x q y f) x bi0 2) :=.inl ⟨by decide, .inr (.inl ⟨HM.out, λhh => h1 hh.1, rfl, rfl⟩)⟩
  clear h1
  go_wp2_with fail
  refine(HI1.out _).mono ?_
  rintro e wz ⟨rfl, hwz⟩
  subst wz
  go_wp2_with fail
  all_goals first
   |(rename_i q1 q2; exact absurd q1 (by simp[undef]))
   |(go_ret; exact⟨x, bi0, p, len, cap, 2, rfl, HV.out, H0g.out, H0F.out, H0G.out⟩)
theorem powe1(B0 g:Nat)(x:Ac)(p:Option Addr)(len cap:Nat)(q:Du)(w:World)(hB0:Blk w B0 #[zI q.a,zI q.b] 42)(hw:Blk w g (wcs x bi0 p len cap) 132)(hl:Ld 42 w (g+1) (.slice p len cap) x.ds)(ha:AMay x):Calls Tryz.prog 190 #[.pointer (some ⟨g,0,none⟩),.pointer (some ⟨B0,0,none⟩)] w λe w'=>WPost w g (Or0 (λy _ f=>OweIs x q y f)) e w':=by
 have d:=zh (powe g x p len cap q w hw hl ha);have i:=zh hB0;clear hw ha hl;go_enter Tryz.func190,Tryz.ntmps190;go_wp2_with refine zw ?_;refine d.o.mono ?_;rintro e l h;have j:=zh h;obtain⟨y,b,k,n,c,f,rfl,_⟩:=h;go_wp2_with fail;go_ret;exact j.o
theorem kowe:KcOwe:=by
 intro w x p len j q Y hq;unfold Ac.v Ac.cs;obtain⟨k,i,F,s,G,n,a9⟩:=sh3 w #[zI x.me,zI x.rv,zI x.nx,zI x.mo,zI x.bo,zI x.fr,.slice p len j] 55 #[zI q.a,zI q.b] 42 #[zI 0,zI 0,zI 0,zI 0,zI 0,zI 0,zS] 55;have r:=zh (Y.ds.below n.o);go_enter Tryz.func182,Tryz.ntmps182;go_upto_region 1 with fail
 rw[i.o];have U:Hid (∀W,zB k W→Blk W (w.heap.size+1) #[zI q.a,zI q.b] 42):=λW hW=>s.o.next hW
 have T:Hid (zC 32 #[.agg #[zI x.me,zI x.rv,zI x.nx,zI x.mo,zI x.bo,zI x.fr,.slice p len j],.func (.func 190) #[] #[.pointer (some ⟨w.heap.size+1,0,none⟩)]] k λe w'=>BPost k (λy _ f=>OweIs x q y f) e w'):=by
  refine pwork 190 #[.pointer (some ⟨w.heap.size+1,0,none⟩)] (λy _ f=>OweIs x q y f) x p len j k r.o (λh=> .inl ⟨h,rfl,rfl⟩) (λ_ _=>by kernel_rfl) ?_;intro hm W g p' A hB hg B V;exact powe1 _ g x p' len A q W (U.o W hB) B V hm
 clear Y;go_wp2_with refine zw ?_;refine T.o.mono ?_;rintro e w1 ⟨b,l,E,D,C,X,rfl,Z,hf,c⟩;obtain⟨I,J,K⟩:=zn3 c F s G;have a3:=zh (r.o.below c);have H:=shB n c;have a2:=c.size;clear c;unfold Ac.v Ac.cs Bi.v;have t:=zh hf;have z:=zh (came_lt t.o.came);have HV:=zh Z;clear hf Z;obtain⟨W4,i,P,M,d,a0⟩:=sh2 w1 #[zI b.me,zI b.rv,zI b.nx,zI b.mo,zI b.bo,zI b.fr,.slice E D C] 55 #[zI l.id,zI l.te,zI l.de,zI l.fe,zI l.pr,zI l.ch,zI l.un] 33;obtain⟨N,O,a4⟩:=zn3 d.o I J K;have u:=zh (t.o.below d.o);have L:=shB H d.o;go_upto_region 2 with fail
 rw[i.o];go_wp2_with (first|refine zs ?_|refine zw ?_)
 intro W5 m;obtain⟨a6,a7,a8,a5⟩:=zk4 m N O P M;have S:=zyb m;have R:Hid (deb.Fresh W5 k.heap.size E D C b.ds):=fresh_updN u.o m (λhn y hy=>by have f1:=u.o.new hn y hy;have f2:=z.o hn y hy;omega);have Q:=zk m L;have a1:=m.size;clear m;go_wp2_with fail;exact zr (.tuple #[.agg #[zI b.me,zI b.rv,zI b.nx,zI b.mo,zI b.bo,zI b.fr,.slice E D C],zI X]) (by simp[results,Tryz.results182,scl7 S,go_sem]) ⟨b,E,D,C,X,rfl,HV.o,R.o.low (by omega),Q.o⟩
end acc
end Go.Proofs.YtoepgdhiepedeaaGreatDoor
