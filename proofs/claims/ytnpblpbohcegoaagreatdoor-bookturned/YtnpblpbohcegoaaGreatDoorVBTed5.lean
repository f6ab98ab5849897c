import Derived.Test.YtnpblpbohcegoaaGreatDoorVBTed4
set_option linter.unusedVariables false
set_option linter.unusedSimpArgs false
set_option maxHeartbeats 4000000
set_option maxRecDepth 100000
namespace Go.Proofs.YtnpblpbohcegoaaGreatDoor
section
open Go.RowKit
theorem shN {w w':World} {G:Nat} {cs:Array Value} {t:TypeId} (h:Hid (Blk w G cs t)) (hb:Below w.heap.size w w'):Hid (Blk w' G cs t):=h.o.next hb
theorem shK {w W:World} {g G:Nat} {cs cs':Array Value} {t t':TypeId} (hU:Upd w W g cs t) (h:Hid (Blk w G cs' t')) (hne:G≠g):Hid (Blk W G cs' t'):=hU.keep h.o hne
theorem shB {w0 w w':World} (h:Hid (Below w0.heap.size w0 w)) (hb:Below w.heap.size w w'):Hid (Below w0.heap.size w0 w'):=bel_step h.o hb
theorem shV {w W:World} {g:Nat} {cs:Array Value} {t:TypeId} {B:Nat} {w0:World} (hU:Upd w W g cs t) (h:Hid (Below B w0 w)) (hB:B≤g):Hid (Below B w0 W):=hU.bel B w0 hB h.o
theorem sh1 (w:World) (c0:Array Value) (t0:TypeId):∃ W,Hid ((w.alloc (.cells c0 t0))=W)∧Hid (Blk W (w.heap.size) c0 t0)∧Hid (Below w.heap.size w W)∧w.heap.size<W.heap.size:=by
 refine ⟨_,rfl,?_,?_,?_⟩
 ·have h:=Blk.new w c0 t0;exact h
 ·exact (Below.refl w.heap.size w).alloc (by simp) _
 ·simp
theorem sh2 (w:World) (c0:Array Value) (t0:TypeId) (c1:Array Value) (t1:TypeId):∃ W,Hid (((w.alloc (.cells c0 t0)).alloc (.cells c1 t1))=W)∧Hid (Blk W (w.heap.size) c0 t0)∧Hid (Blk W (w.heap.size+1) c1 t1)∧Hid (Below w.heap.size w W)∧w.heap.size+1<W.heap.size:=by
 refine ⟨_,rfl,?_,?_,?_,?_⟩
 ·have h:=Blk.new w c0 t0;exact (h.alloc _)
 ·have h:=Blk.new (w.alloc (.cells c0 t0)) c1 t1;rw [show (w.alloc (.cells c0 t0)).heap.size=w.heap.size+1 by simp] at h;exact h
 ·exact ((Below.refl w.heap.size w).alloc (by simp) _).alloc (by simp) _
 ·simp
theorem sh3 (w:World) (c0:Array Value) (t0:TypeId) (c1:Array Value) (t1:TypeId) (c2:Array Value) (t2:TypeId):∃ W,Hid ((((w.alloc (.cells c0 t0)).alloc (.cells c1 t1)).alloc (.cells c2 t2))=W)∧Hid (Blk W (w.heap.size) c0 t0)∧Hid (Blk W (w.heap.size+1) c1 t1)∧Hid (Blk W (w.heap.size+1+1) c2 t2)∧Hid (Below w.heap.size w W)∧w.heap.size+1+1<W.heap.size:=by
 refine ⟨_,rfl,?_,?_,?_,?_,?_⟩
 ·have h:=Blk.new w c0 t0;exact ((h.alloc _).alloc _)
 ·have h:=Blk.new (w.alloc (.cells c0 t0)) c1 t1;rw [show (w.alloc (.cells c0 t0)).heap.size=w.heap.size+1 by simp] at h;exact (h.alloc _)
 ·have h:=Blk.new ((w.alloc (.cells c0 t0)).alloc (.cells c1 t1)) c2 t2;rw [show ((w.alloc (.cells c0 t0)).alloc (.cells c1 t1)).heap.size=w.heap.size+1+1 by simp] at h;exact h
 ·exact (((Below.refl w.heap.size w).alloc (by simp) _).alloc (by simp) _).alloc (by simp;omega) _
 ·simp
theorem sh4 (w:World) (c0:Array Value) (t0:TypeId) (c1:Array Value) (t1:TypeId) (c2:Array Value) (t2:TypeId) (c3:Array Value) (t3:TypeId):∃ W,Hid (((((w.alloc (.cells c0 t0)).alloc (.cells c1 t1)).alloc (.cells c2 t2)).alloc (.cells c3 t3))=W)∧Hid (Blk W (w.heap.size) c0 t0)∧Hid (Blk W (w.heap.size+1) c1 t1)∧Hid (Blk W (w.heap.size+1+1) c2 t2)∧Hid (Blk W (w.heap.size+1+1+1) c3 t3)∧Hid (Below w.heap.size w W)∧w.heap.size+1+1+1<W.heap.size:=by
 refine ⟨_,rfl,?_,?_,?_,?_,?_,?_⟩
 ·have h:=Blk.new w c0 t0;exact (((h.alloc _).alloc _).alloc _)
 ·have h:=Blk.new (w.alloc (.cells c0 t0)) c1 t1;rw [show (w.alloc (.cells c0 t0)).heap.size=w.heap.size+1 by simp] at h;exact ((h.alloc _).alloc _)
 ·have h:=Blk.new ((w.alloc (.cells c0 t0)).alloc (.cells c1 t1)) c2 t2;rw [show ((w.alloc (.cells c0 t0)).alloc (.cells c1 t1)).heap.size=w.heap.size+1+1 by simp] at h;exact (h.alloc _)
 ·have h:=Blk.new (((w.alloc (.cells c0 t0)).alloc (.cells c1 t1)).alloc (.cells c2 t2)) c3 t3;rw [show (((w.alloc (.cells c0 t0)).alloc (.cells c1 t1)).alloc (.cells c2 t2)).heap.size=w.heap.size+1+1+1 by simp] at h;exact h
 ·exact ((((Below.refl w.heap.size w).alloc (by simp) _).alloc (by simp) _).alloc (by simp;omega) _).alloc (by simp;omega) _
 ·simp
theorem sh5 (w:World) (c0:Array Value) (t0:TypeId) (c1:Array Value) (t1:TypeId) (c2:Array Value) (t2:TypeId) (c3:Array Value) (t3:TypeId) (c4:Array Value) (t4:TypeId):∃ W,Hid ((((((w.alloc (.cells c0 t0)).alloc (.cells c1 t1)).alloc (.cells c2 t2)).alloc (.cells c3 t3)).alloc (.cells c4 t4))=W)∧Hid (Blk W (w.heap.size) c0 t0)∧Hid (Blk W (w.heap.size+1) c1 t1)∧Hid (Blk W (w.heap.size+1+1) c2 t2)∧Hid (Blk W (w.heap.size+1+1+1) c3 t3)∧Hid (Blk W (w.heap.size+1+1+1+1) c4 t4)∧Hid (Below w.heap.size w W)∧w.heap.size+1+1+1+1<W.heap.size:=by
 refine ⟨_,rfl,?_,?_,?_,?_,?_,?_,?_⟩
 ·have h:=Blk.new w c0 t0;exact ((((h.alloc _).alloc _).alloc _).alloc _)
 ·have h:=Blk.new (w.alloc (.cells c0 t0)) c1 t1;rw [show (w.alloc (.cells c0 t0)).heap.size=w.heap.size+1 by simp] at h;exact (((h.alloc _).alloc _).alloc _)
 ·have h:=Blk.new ((w.alloc (.cells c0 t0)).alloc (.cells c1 t1)) c2 t2;rw [show ((w.alloc (.cells c0 t0)).alloc (.cells c1 t1)).heap.size=w.heap.size+1+1 by simp] at h;exact ((h.alloc _).alloc _)
 ·have h:=Blk.new (((w.alloc (.cells c0 t0)).alloc (.cells c1 t1)).alloc (.cells c2 t2)) c3 t3;rw [show (((w.alloc (.cells c0 t0)).alloc (.cells c1 t1)).alloc (.cells c2 t2)).heap.size=w.heap.size+1+1+1 by simp] at h;exact (h.alloc _)
 ·have h:=Blk.new ((((w.alloc (.cells c0 t0)).alloc (.cells c1 t1)).alloc (.cells c2 t2)).alloc (.cells c3 t3)) c4 t4;rw [show ((((w.alloc (.cells c0 t0)).alloc (.cells c1 t1)).alloc (.cells c2 t2)).alloc (.cells c3 t3)).heap.size=w.heap.size+1+1+1+1 by simp] at h;exact h
 ·exact (((((Below.refl w.heap.size w).alloc (by simp) _).alloc (by simp) _).alloc (by simp;omega) _).alloc (by simp;omega) _).alloc (by simp;omega) _
 ·simp
theorem shc3 {w:World} {G:Nat} {a0 a1 a2:Value} {t:TypeId} (h:Hid (Blk w G #[a0,a1,a2] t)):Hid (w.cell? ⟨G,0,none⟩=some a0)∧Hid (w.cell? ⟨G,1,none⟩=some a1)∧Hid (w.cell? ⟨G,2,none⟩=some a2):=⟨h.o.cell 0,h.o.cell 1,h.o.cell 2⟩
theorem shc4 {w:World} {G:Nat} {a0 a1 a2 a3:Value} {t:TypeId} (h:Hid (Blk w G #[a0,a1,a2,a3] t)):Hid (w.cell? ⟨G,0,none⟩=some a0)∧Hid (w.cell? ⟨G,1,none⟩=some a1)∧Hid (w.cell? ⟨G,2,none⟩=some a2)∧Hid (w.cell? ⟨G,3,none⟩=some a3):=⟨h.o.cell 0,h.o.cell 1,h.o.cell 2,h.o.cell 3⟩
theorem scl5 {w:World} {G:Nat} {a0 a1 a2 a3 a4:Value} {t:TypeId} (h:Hid (Blk w G #[a0,a1,a2,a3,a4] t)):w.cell? ⟨G,0,none⟩=some a0∧w.cell? ⟨G,1,none⟩=some a1∧w.cell? ⟨G,2,none⟩=some a2∧w.cell? ⟨G,3,none⟩=some a3∧w.cell? ⟨G,4,none⟩=some a4:=⟨h.o.cell 0,h.o.cell 1,h.o.cell 2,h.o.cell 3,h.o.cell 4⟩
theorem shc5 {w:World} {G:Nat} {a0 a1 a2 a3 a4:Value} {t:TypeId} (h:Hid (Blk w G #[a0,a1,a2,a3,a4] t)):Hid (w.cell? ⟨G,0,none⟩=some a0)∧Hid (w.cell? ⟨G,1,none⟩=some a1)∧Hid (w.cell? ⟨G,2,none⟩=some a2)∧Hid (w.cell? ⟨G,3,none⟩=some a3)∧Hid (w.cell? ⟨G,4,none⟩=some a4):=⟨h.o.cell 0,h.o.cell 1,h.o.cell 2,h.o.cell 3,h.o.cell 4⟩
theorem scl7 {w:World} {G:Nat} {a0 a1 a2 a3 a4 a5 a6:Value} {t:TypeId} (h:Hid (Blk w G #[a0,a1,a2,a3,a4,a5,a6] t)):w.cell? ⟨G,0,none⟩=some a0∧w.cell? ⟨G,1,none⟩=some a1∧w.cell? ⟨G,2,none⟩=some a2∧w.cell? ⟨G,3,none⟩=some a3∧w.cell? ⟨G,4,none⟩=some a4∧w.cell? ⟨G,5,none⟩=some a5∧w.cell? ⟨G,6,none⟩=some a6:=⟨h.o.cell 0,h.o.cell 1,h.o.cell 2,h.o.cell 3,h.o.cell 4,h.o.cell 5,h.o.cell 6⟩
theorem shc7 {w:World} {G:Nat} {a0 a1 a2 a3 a4 a5 a6:Value} {t:TypeId} (h:Hid (Blk w G #[a0,a1,a2,a3,a4,a5,a6] t)):Hid (w.cell? ⟨G,0,none⟩=some a0)∧Hid (w.cell? ⟨G,1,none⟩=some a1)∧Hid (w.cell? ⟨G,2,none⟩=some a2)∧Hid (w.cell? ⟨G,3,none⟩=some a3)∧Hid (w.cell? ⟨G,4,none⟩=some a4)∧Hid (w.cell? ⟨G,5,none⟩=some a5)∧Hid (w.cell? ⟨G,6,none⟩=some a6):=⟨h.o.cell 0,h.o.cell 1,h.o.cell 2,h.o.cell 3,h.o.cell 4,h.o.cell 5,h.o.cell 6⟩
theorem scl8 {w:World} {G:Nat} {a0 a1 a2 a3 a4 a5 a6 a7:Value} {t:TypeId} (h:Hid (Blk w G #[a0,a1,a2,a3,a4,a5,a6,a7] t)):w.cell? ⟨G,0,none⟩=some a0∧w.cell? ⟨G,1,none⟩=some a1∧w.cell? ⟨G,2,none⟩=some a2∧w.cell? ⟨G,3,none⟩=some a3∧w.cell? ⟨G,4,none⟩=some a4∧w.cell? ⟨G,5,none⟩=some a5∧w.cell? ⟨G,6,none⟩=some a6∧w.cell? ⟨G,7,none⟩=some a7:=⟨h.o.cell 0,h.o.cell 1,h.o.cell 2,h.o.cell 3,h.o.cell 4,h.o.cell 5,h.o.cell 6,h.o.cell 7⟩
theorem shc8 {w:World} {G:Nat} {a0 a1 a2 a3 a4 a5 a6 a7:Value} {t:TypeId} (h:Hid (Blk w G #[a0,a1,a2,a3,a4,a5,a6,a7] t)):Hid (w.cell? ⟨G,0,none⟩=some a0)∧Hid (w.cell? ⟨G,1,none⟩=some a1)∧Hid (w.cell? ⟨G,2,none⟩=some a2)∧Hid (w.cell? ⟨G,3,none⟩=some a3)∧Hid (w.cell? ⟨G,4,none⟩=some a4)∧Hid (w.cell? ⟨G,5,none⟩=some a5)∧Hid (w.cell? ⟨G,6,none⟩=some a6)∧Hid (w.cell? ⟨G,7,none⟩=some a7):=⟨h.o.cell 0,h.o.cell 1,h.o.cell 2,h.o.cell 3,h.o.cell 4,h.o.cell 5,h.o.cell 6,h.o.cell 7⟩
theorem shc9 {w:World} {G:Nat} {a0 a1 a2 a3 a4 a5 a6 a7 a8:Value} {t:TypeId} (h:Hid (Blk w G #[a0,a1,a2,a3,a4,a5,a6,a7,a8] t)):Hid (w.cell? ⟨G,0,none⟩=some a0)∧Hid (w.cell? ⟨G,1,none⟩=some a1)∧Hid (w.cell? ⟨G,2,none⟩=some a2)∧Hid (w.cell? ⟨G,3,none⟩=some a3)∧Hid (w.cell? ⟨G,4,none⟩=some a4)∧Hid (w.cell? ⟨G,5,none⟩=some a5)∧Hid (w.cell? ⟨G,6,none⟩=some a6)∧Hid (w.cell? ⟨G,7,none⟩=some a7)∧Hid (w.cell? ⟨G,8,none⟩=some a8):=⟨h.o.cell 0,h.o.cell 1,h.o.cell 2,h.o.cell 3,h.o.cell 4,h.o.cell 5,h.o.cell 6,h.o.cell 7,h.o.cell 8⟩
theorem scl13 {w:World} {G:Nat} {a0 a1 a2 a3 a4 a5 a6 a7 a8 a9 a10 a11 a12:Value} {t:TypeId} (h:Hid (Blk w G #[a0,a1,a2,a3,a4,a5,a6,a7,a8,a9,a10,a11,a12] t)):w.cell? ⟨G,0,none⟩=some a0∧w.cell? ⟨G,1,none⟩=some a1∧w.cell? ⟨G,2,none⟩=some a2∧w.cell? ⟨G,3,none⟩=some a3∧w.cell? ⟨G,4,none⟩=some a4∧w.cell? ⟨G,5,none⟩=some a5∧w.cell? ⟨G,6,none⟩=some a6∧w.cell? ⟨G,7,none⟩=some a7∧w.cell? ⟨G,8,none⟩=some a8∧w.cell? ⟨G,9,none⟩=some a9∧w.cell? ⟨G,10,none⟩=some a10∧w.cell? ⟨G,11,none⟩=some a11∧w.cell? ⟨G,12,none⟩=some a12:=⟨h.o.cell 0,h.o.cell 1,h.o.cell 2,h.o.cell 3,h.o.cell 4,h.o.cell 5,h.o.cell 6,h.o.cell 7,h.o.cell 8,h.o.cell 9,h.o.cell 10,h.o.cell 11,h.o.cell 12⟩
end
namespace deb
open tar (Du du0 Came RowD Ld ErrPost TwoPost PairT)
open Go.RowKit
structure Fresh (w:World) (base:Nat) (a:Option Addr) (len cap:Nat) (ls:List Du):Prop where
 came:Came w a len cap ls
 new:0<len→∀ x,a=some x→base≤x.block
def RecPost (w:World) (l:List Du) (t bp:Int) (e:Ending) (w':World):Prop:=∃ a len cap z p f,e = .returned (.tuple #[.slice a len cap,zI p,zI f])∧RecIs l t bp z p f∧Fresh w' w.heap.size a len cap z∧Below w.heap.size w w'
def AgePost (w:World) (l:List Du) (m:Int) (e:Ending) (w':World):Prop:=∃ a len cap z f,e = .returned (.tuple #[.slice a len cap,zI f])∧AgeIs l m z f∧Fresh w' w.heap.size a len cap z∧Below w.heap.size w w'
theorem Mays.wf {l:List Du} (h:Mays l):∀ x∈l,(Lit.int .i64 x.a).wf=true∧(Lit.int .i64 x.b).wf=true:=fun x hx=>by
 obtain ⟨⟨a1,a2⟩,b1,b2⟩:=mem_fits h.2 x hx;exact ⟨tar.wf_mid a1 (by omega),tar.wf_mid b1 (by omega)⟩
theorem ld_mays {T:TypeId} {w:World} {base:Nat} {v:Value} {l:List Du} (h:Ld T w base v l) (hm:Mays l):∃ a cap,v = .slice a l.length cap∧Came w a l.length cap l:=h.came (by have:=hm.1;omega) hm.wf
theorem ld_new {T:TypeId} {w:World} {base:Nat} {a:Option Addr} {n cap:Nat} {l:List Du} (h:Ld T w base (.slice a n cap) l):0<n→∀ x,a=some x→base≤x.block:=fun hn x hx=>by
 subst hx;exact (World.ownsRow.lt h x.block rfl).1
theorem ld_fresh {T:TypeId} {w:World} {base:Nat} {v:Value} {l:List Du} (h:Ld T w base v l) (hm:Mays l):∃ a cap,v = .slice a l.length cap∧Fresh w base a l.length cap l:=by
 obtain ⟨a,cap,rfl,hc⟩:=ld_mays h hm;exact ⟨a,cap,rfl,hc,ld_new h⟩
theorem Fresh.low {w:World} {base base':Nat} {a:Option Addr} {len cap:Nat} {ls:List Du} (h:Fresh w base a len cap ls) (hb:base'≤base):Fresh w base' a len cap ls:=⟨h.came,fun hn x hx=>Nat.le_trans hb (h.new hn x hx)⟩
theorem Fresh.below {w w':World} {base:Nat} {a:Option Addr} {len cap:Nat} {ls:List Du} (h:Fresh w base a len cap ls) (hb:Below w.heap.size w w'):Fresh w' base a len cap ls:=⟨h.came.below hb,h.new⟩
theorem came_nil (w:World):Came w none 0 0 []:=⟨tar.RowD.nil _ _,fun _=>rfl,Nat.le_refl _,by omega,fun x hx=>by cases hx⟩
theorem fresh_nil (w:World) (base:Nat):Fresh w base none 0 0 []:=⟨came_nil w,fun h=>absurd h (Nat.lt_irrefl _)⟩
end deb
namespace book
open Go.RowKit
def refV (f:Int):Value:= .iface 150 (.agg #[zI f])
def thrown (f:Int):List PanicEntry:=[{ v:=refV f,recovered:=false }]
theorem insist_ok (w:World):Calls Tryz.prog 112 #[zI 0] w fun e w'=>e = .returned (.tuple #[])∧w'=w:=by
 go_enter Tryz.func112,Tryz.ntmps112;go_wp2;go_end0;exact ⟨rfl,rfl⟩
theorem insist_no (f:Int) (hf:f≠0) (w:World):Calls Tryz.prog 112 #[zI f] w fun e w'=>e = .panicked (thrown f)∧w'=w:=by
 have nf:(f != 0)=true:=by simpa using hf
 clear hf;go_enter Tryz.func112,Tryz.ntmps112;go_wp2;exact ⟨rfl,rfl,rfl⟩
theorem reason_nil (w:World):Calls Tryz.prog 39 #[.nilIface] w fun e w'=>e = .returned (zI 0)∧w'=w:=by
 have hq:∀ w:World,(binOp BinOp.eql 20 .nilIface .nilIface).run Tryz.prog w = .ok (.bool true) w:=fun _=>by kernel_rfl
 go_enter Tryz.func39,Tryz.ntmps39;go_wp2;go_ret;exact ⟨rfl,rfl⟩
theorem reason_is (f:Int) (w:World):Calls Tryz.prog 39 #[refV f] w fun e w'=>e = .returned (zI f)∧Below w.heap.size w w':=by
 have hq:∀ w:World,(binOp BinOp.eql 20 (refV f) .nilIface).run Tryz.prog w = .ok (.bool false) w:=fun _=>by kernel_rfl
 have h1:∀ w:World,(Instr.typeAssert (refV f) 20 148 false).run Tryz.prog w = .ok (refV f) w:=fun _=>by kernel_rfl
 have h2:∀ w:World,(Instr.typeAssert (refV f) 148 150 true).run Tryz.prog w = .ok (.tuple #[.agg #[zI f],.bool true]) w:=fun _=>by kernel_rfl
 have HB:Hid (Below w.heap.size w (w.alloc (.cells #[zI f] 150))):=(Below.refl _ _).alloc (Nat.le_refl _) _;unfold refV at *;go_enter Tryz.func39,Tryz.ntmps39;go_wp2;go_ret;exact ⟨rfl,HB.o⟩
theorem encode_caught (g:Nat) (f0 f:Int) (w:World) (hb:Blk w g #[zI f0] 27) :
  CallsD Tryz.prog 152 #[.pointer (some ⟨g,0,none⟩)] (.panicking (thrown f)) w fun e u' w'=>e = .returned (.tuple #[])∧settle u' = .returning∧∃ W,Below w.heap.size w W∧Upd W w' g #[zI f] 27:=by
 refine callsD_of_wpS Tryz.func152 rfl fun c₀ cs hu=>?_;apply wpS_region;simp only [thrown] at hu;simp [wpOpsS,go_sem,recoverD,hu,Tryz.ntmps152,Exit.thenS];refine (reason_is f w).mono ?_;rintro e w1 ⟨rfl,hb1⟩;have hB:=hb.next hb1;have hc:w1.cell? ⟨g,0,none⟩=some (zI f0):=hB.cell 0;have hz:w1.frozen? ⟨g,0,none⟩=false:=hB.free 0;have hU:Upd w1 (w1.setCell ⟨g,0,none⟩ (zI f)) g #[zI f] 27:=upd_cells g _ [zI f] 0 w1 _ hB;simp [go_sem,hc,hz,bodyPostS,results,Tryz.results152,settle];exact ⟨w1,hb1,hU⟩
theorem encode_idle (g:Nat) (f0:Int) (w:World) (hb:Blk w g #[zI f0] 27) :
  CallsD Tryz.prog 152 #[.pointer (some ⟨g,0,none⟩)] .returning w fun e u' w'=>e = .returned (.tuple #[])∧settle u' = .returning∧∃ W,Below w.heap.size w W∧Upd W w' g #[zI 0] 27:=by
 refine callsD_of_wpS Tryz.func152 rfl fun c₀ cs hu=>?_;apply wpS_region;simp [wpOpsS,go_sem,recoverD,hu,Tryz.ntmps152,Exit.thenS];refine (reason_nil w).mono ?_;rintro e w1 ⟨rfl,rfl⟩;have hc:w1.cell? ⟨g,0,none⟩=some (zI f0):=hb.cell 0;have hz:w1.frozen? ⟨g,0,none⟩=false:=hb.free 0;have hU:Upd w1 (w1.setCell ⟨g,0,none⟩ (zI 0)) g #[zI 0] 27:=upd_cells g _ [zI 0] 0 w1 _ hb;simp [go_sem,hc,hz,bodyPostS,results,Tryz.results152,hu,settle];exact ⟨.returning,(by cases c₀;simp_all),rfl,w1,Below.refl _ _,hU⟩
theorem decode_caught (g:Nat) (f0 f:Int) (w:World) (hb:Blk w g #[zI f0] 27) :
  CallsD Tryz.prog 65 #[.pointer (some ⟨g,0,none⟩)] (.panicking (thrown f)) w fun e u' w'=>e = .returned (.tuple #[])∧settle u' = .returning∧∃ W,Below w.heap.size w W∧Upd W w' g #[zI f] 27:=by
 refine callsD_of_wpS Tryz.func65 rfl fun c₀ cs hu=>?_;apply wpS_region;simp only [thrown] at hu;simp [wpOpsS,go_sem,recoverD,hu,Tryz.ntmps65,Exit.thenS];refine (reason_is f w).mono ?_;rintro e w1 ⟨rfl,hb1⟩;have hB:=hb.next hb1;have hc:w1.cell? ⟨g,0,none⟩=some (zI f0):=hB.cell 0;have hz:w1.frozen? ⟨g,0,none⟩=false:=hB.free 0;have hU:Upd w1 (w1.setCell ⟨g,0,none⟩ (zI f)) g #[zI f] 27:=upd_cells g _ [zI f] 0 w1 _ hB;simp [go_sem,hc,hz,bodyPostS,results,Tryz.results65,settle];exact ⟨w1,hb1,hU⟩
theorem decode_idle (g:Nat) (f0:Int) (w:World) (hb:Blk w g #[zI f0] 27) :
  CallsD Tryz.prog 65 #[.pointer (some ⟨g,0,none⟩)] .returning w fun e u' w'=>e = .returned (.tuple #[])∧settle u' = .returning∧∃ W,Below w.heap.size w W∧Upd W w' g #[zI 0] 27:=by
 refine callsD_of_wpS Tryz.func65 rfl fun c₀ cs hu=>?_;apply wpS_region;simp [wpOpsS,go_sem,recoverD,hu,Tryz.ntmps65,Exit.thenS];refine (reason_nil w).mono ?_;rintro e w1 ⟨rfl,rfl⟩;have hc:w1.cell? ⟨g,0,none⟩=some (zI f0):=hb.cell 0;have hz:w1.frozen? ⟨g,0,none⟩=false:=hb.free 0;have hU:Upd w1 (w1.setCell ⟨g,0,none⟩ (zI 0)) g #[zI 0] 27:=upd_cells g _ [zI 0] 0 w1 _ hb;simp [go_sem,hc,hz,bodyPostS,results,Tryz.results65,hu,settle];exact ⟨.returning,(by cases c₀;simp_all),rfl,w1,Below.refl _ _,hU⟩
end book
namespace tar
open Go.RowKit
abbrev Ln:={ t:Tr // LineOk t }
def encL (t:Ln):Array Value:=#[.agg #[zI t.1.a,zI t.1.b,zI t.1.c]]
def lns (l:List Ln):List Tr:=l.map (fun t=>t.1)
theorem lns_app (l m:List Ln):lns (l++m)=lns l++lns m:=by unfold lns;rw [List.map_append]
theorem lns_len (l:List Ln):(lns l).length=l.length:=by unfold lns;rw [List.length_map]
theorem lns_ok (l:List Ln):∀ t∈lns l,LineOk t:=fun t ht=>by
 unfold lns at ht;obtain ⟨s,_,rfl⟩:=List.mem_map.1 ht;exact s.2
def Kq (n lo hi:Nat) (W W':World):Prop:=Below n W W'∧∀ j,lo≤j→j<hi→W'.heap[j]?=W.heap[j]?
theorem Kq.trans {n lo hi:Nat} {A B C:World} (h:Kq n lo hi A B) (k:Kq n lo hi B C):Kq n lo hi A C:=⟨h.1.trans k.1,fun j a b=>(k.2 j a b).trans (h.2 j a b)⟩
theorem nxt_yes {l:List Du} (h:Right l) (x y:Int) (hx:0≤x) (hxy:x≤y) (k:Nat) (hk:k<l.length) (hp:0<min (l.getD k du0).a y - (x+manyK l x y k)):min (l.getD k du0).a y - (x+manyK l x y k)=ov (low l k) (l.getD k du0).a x y:=by
 have h1:=many_eq h x y hx hxy k (by omega);have h2:=h.rise k hk;have h3:=h.low_pos k (by omega);rw [h1] at hp ⊢;unfold ov;omega
theorem nxt_no {l:List Du} (h:Right l) (x y:Int) (hx:0≤x) (hxy:x≤y) (k:Nat) (hk:k<l.length) (hp:¬ 0<min (l.getD k du0).a y - (x+manyK l x y k)):ov (low l k) (l.getD k du0).a x y=0:=by
 have h1:=many_eq h x y hx hxy k (by omega);have h2:=h.rise k hk;have h3:=h.low_pos k (by omega);rw [h1] at hp;unfold ov;omega
theorem many_next (l:List Du) (x y:Int) (k:Nat):manyK l x y (k+1)=manyK l x y k+ov (low l k) (l.getD k du0).a x y:=rfl
theorem many_bd {l:List Du} (h:Right l) (x y:Int) (hx:0≤x) (hxy:x≤y) (k:Nat) (hk:k≤l.length):0≤manyK l x y k∧manyK l x y k≤y - x:=by
 rw [many_eq h x y hx hxy k hk];omega
theorem line_ok {l:List Du} (h:Right l) (x y:Int) (k:Nat) (hk:k<l.length) (hp:0<ov (low l k) (l.getD k du0).a x y):LineOk ⟨ov (low l k) (l.getD k du0).a x y,(l.getD k du0).b,ov (low l k) (l.getD k du0).a x y*(l.getD k du0).b⟩:=by
 have h1:=h.price k hk;have h2:=h.upto k hk;have h3:=h.low_pos k (by omega);exact ⟨by show 1≤ov _ _ _ _;omega,ov_le _ _ _ _ h3 h2.2,h1.1,h1.2,rfl⟩
theorem bill_prefix (l:List Du) (x y:Int) (k m:Nat) (hkm:k≤m):billK l x y k <+: billK l x y m:=by
 induction m with
 | zero=>
  have:k=0:=by omega
  subst this;exact List.prefix_refl _
 | succ m ih=>
  by_cases e:k=m+1
  ·subst e;exact List.prefix_refl _
  ·exact (ih (by omega)).trans (List.prefix_append (billK l x y m) (if 0<ov (low l m) (l.getD m du0).a x y then [⟨ov (low l m) (l.getD m du0).a x y,(l.getD m du0).b,ov (low l m) (l.getD m du0).a x y*(l.getD m du0).b⟩] else []))
theorem ov_before {l:List Du} (h:Right l) (x y z:Int) (k j:Nat) (hk:k<l.length) (hj:j<k) (hy:low l k≤y) (hz:low l k≤z):ov (low l j) (l.getD j du0).a x z=ov (low l j) (l.getD j du0).a x y:=by
 have h1:=low_mono h (j+1) k (by omega) (by omega);rw [low_next] at h1;unfold ov;omega
theorem costK_before {l:List Du} (h:Right l) (x y z:Int) (k j:Nat) (hk:k<l.length) (hj:j≤k) (hy:low l k≤y) (hz:low l k≤z):costK l x z j=costK l x y j:=by
 induction j with
 | zero=>rfl
 | succ j ih=>rw [costK_next,costK_next,ih (by omega),ov_before h x y z k j hk (by omega) hy hz]
theorem costK_behind {l:List Du} (h:Right l) (x z:Int) (k j:Nat) (hkj:k≤j) (hj:j≤l.length) (hz:z≤low l k):costK l x z j=costK l x z k:=by
 induction j with
 | zero=>
  have:k=0:=by omega
  subst this;rfl
 | succ j ih=>
  by_cases e:k=j+1
  ·subst e;rfl
  ·have h1:=ih (by omega) (by omega);have h2:=low_mono h k j (by omega) (by omega);rw [costK_next,h1,show ov (low l j) (l.getD j du0).a x z=0 by unfold ov;omega];omega
theorem cost_part {l:List Du} (h:Right l) (x y:Int) (hx:0≤x) (hxy:x≤y) (k:Nat) (hk:k<l.length) (q:Int) (hq:0≤q) (hq2:q≤ov (low l k) (l.getD k du0).a x y) (hp:0<ov (low l k) (l.getD k du0).a x y) :
  cost l x (x+(manyK l x y k+q))=costK l x y k+q*(l.getD k du0).b:=by
 have h1:=many_eq h x y hx hxy k (by omega);have h2:=h.rise k hk;have h3:=h.low_pos k (by omega);have hlo:low l k≤y:=by unfold ov at hp;omega
 have hz:low l k≤x+(manyK l x y k+q):=by rw [h1];omega
 have hz2:x+(manyK l x y k+q)≤low l (k+1):=by rw [h1,low_next];unfold ov at hq2 hp;omega
 unfold cost;rw [costK_behind h x _ (k+1) l.length (by omega) (Nat.le_refl _) hz2,costK_next,costK_before h x y _ k k hk (Nat.le_refl _) hlo hz];rw [show ov (low l k) (l.getD k du0).a x (x+(manyK l x y k+q))=q by rw [h1];unfold ov at hq2 hp ⊢;omega]
theorem bill_at (l:List Du) (x y:Int) (n:Nat) (p:List Tr) (t:Tr) (h:p++[t] <+: billK l x y n):∃ k,k<n∧p=billK l x y k∧0<ov (low l k) (l.getD k du0).a x y∧t=⟨ov (low l k) (l.getD k du0).a x y,(l.getD k du0).b,ov (low l k) (l.getD k du0).a x y*(l.getD k du0).b⟩:=by
 induction n with
 | zero=>
  have:=h.length_le;simp [billK] at this
 | succ n ih=>
  by_cases hp:0<ov (low l n) (l.getD n du0).a x y
  ·rw [billK_yes l x y n hp] at h;rcases List.prefix_concat_iff.1 h with h | h
   ·obtain ⟨h1,h2⟩:=List.append_inj' h rfl;exact ⟨n,by omega,h1,hp,by simpa using h2⟩
   ·obtain ⟨k,a,b⟩:=ih h;exact ⟨k,by omega,b⟩
  ·rw [billK_no l x y n hp] at h;obtain ⟨k,a,b⟩:=ih h;exact ⟨k,by omega,b⟩
theorem top_bd {x:Int} (hx:0≤x∧x≤10000000):0≤Top x∧x+Top x≤10000000:=by unfold Top;omega
theorem most_all {l:List Du} (h:Right l) (x m:Int) (hx:0≤x∧x≤10000000) (hm:sumC (billK l x (x+Top x) l.length)≤m):MostOf l x m (sumA (billK l x (x+Top x) l.length))∧sumC (billK l x (x+Top x) l.length)=cost l x (x+sumA (billK l x (x+Top x) l.length)):=by
 have ht:=top_bd hx;have h1:=bill_sums l x (x+Top x) l.length;have h2:=many_all h x (x+Top x) hx.1 (by omega) ht.2;have e:sumA (billK l x (x+Top x) l.length)=Top x:=by rw [h1.1,h2];omega
 have e2:sumC (billK l x (x+Top x) l.length)=cost l x (x+Top x):=h1.2;rw [e,e2];rw [e2] at hm;exact ⟨⟨⟨ht.1,Int.le_refl _⟩,hm,.inl rfl⟩,rfl⟩
theorem most_cut {l:List Du} (h:Right l) (x m q:Int) (hx:0≤x∧x≤10000000) (p:List Tr) (t:Tr) (hpre:p++[t] <+: billK l x (x+Top x) l.length) (hq0:0≤q) (hq:q<t.a) (h1:sumC p+q*t.b≤m) (h2:m<sumC p+(q+1)*t.b) :
  MostOf l x m (sumA p+q)∧sumC p+q*t.b=cost l x (x+(sumA p+q)):=by
 have ht:=top_bd hx;obtain ⟨k,hk,rfl,hp,rfl⟩:=bill_at l x (x+Top x) l.length p t hpre;have hs:=bill_sums l x (x+Top x) k;rw [hs.1,hs.2];rw [hs.2] at h1 h2;dsimp only at hq h1 h2 ⊢;have e1:=cost_part h x (x+Top x) hx.1 (by omega) k hk q hq0 (by omega) hp;have e2:=cost_part h x (x+Top x) hx.1 (by omega) k hk (q+1) (by omega) (by omega) hp;have hb:=many_bd h x (x+Top x) hx.1 (by omega) k (by omega);have hb2:=many_bd h x (x+Top x) hx.1 (by omega) (k+1) (by omega);rw [many_next] at hb2;rw [e1];refine ⟨⟨⟨by omega,by omega⟩,by rw [e1];exact h1,.inr ?_⟩,rfl⟩;rw [show manyK l x (x+Top x) k+q+1=manyK l x (x+Top x) k+(q+1) by omega,e2];exact h2
theorem sums_bd (l:List Tr) (h:∀ t∈l,LineOk t):(0≤sumA l∧sumA l≤(l.length:Int)*10000000)∧0≤sumC l:=by
 induction l with
 | nil=>exact ⟨⟨Int.le_refl _,Int.le_refl _⟩,Int.le_refl _⟩
 | cons t l ih=>
  have h1:=ih fun x hx=>h x (List.mem_cons_of_mem _ hx);obtain ⟨a1,a2,a3,a4,a5⟩:=h t List.mem_cons_self;have h2:=prod_bd (show 0≤t.a by omega) a2 a3 a4;rw [← a5] at h2;have e:((t :: l).length:Int)=(l.length:Int)+1:=by simp
  rw [e,Int.add_mul];exact ⟨⟨by show 0≤t.a+sumA l;omega,by show t.a+sumA l≤_;omega⟩,by show 0≤t.c+sumC l;omega⟩
theorem quo_bd {d p q:Int} (hd:0≤d) (hp:1≤p) (hq:d / p=q):0≤q∧q*p≤d∧d<(q+1)*p∧q≤d:=by
 subst hq;have h1:=Int.ediv_nonneg hd (show 0≤p by omega);have h2:=Int.mul_ediv_self_le (x:=d) (k:=p) (by omega);have h3:=Int.lt_mul_ediv_self_add (x:=d) (k:=p) (by omega);have h4:d / p≤d:=Int.ediv_le_self _ hd;rw [Int.mul_comm] at h2 h3;exact ⟨h1,h2,by rw [Int.add_mul];omega,h4⟩
theorem snoc_one {p:List Ln} {t:Ln}:lns (p++[t])=lns p++[t.1]:=by rw [lns_app];rfl
theorem sums_one (p:List Ln) (t:Ln):sumA (lns (p++[t]))=sumA (lns p)+t.1.a∧sumC (lns (p++[t]))=sumC (lns p)+t.1.c:=by
 rw [snoc_one,sumA_app,sumC_app];exact ⟨by show _+(t.1.a+0)=_;omega,by show _+(t.1.c+0)=_;omega⟩
end tar
section
open Go.RowKit
theorem operIn_round {F:Fence} {n:Nat} {P:Program} (hro:F.round=none) (l:Nat) {o:Oper} (hd:∀ c,o.op ≠ .defer c) {a:Act} {w:World} {K K':Act→World→Prop} {Q:Exit→Act→World→Prop} (hK:∀ a w,K a w→K' a w) (h:o.wpIn F n P a w K Q):o.wpIn (F.inRound l) n P a w K' Q:=by
 have h2:=Oper.wpIn_mono hK h;unfold Oper.wpIn at *;refine ⟨h2.1,?_⟩;have h3:=h2.2;rw [hro,Oper.semAt_none] at h3;rw [Fence.inRound_round,Oper.semAt_some l _ _ hd];generalize (execOp a.eval o).run P w=r at *;cases r with
 | ok x w'=>cases x <;> exact h3
 | halt x w'=>cases x <;> exact h3
theorem opsIn_round {F:Fence} {n:Nat} {P:Program} {ops:Array Oper} {Q:Exit→Act→World→Prop} (hro:F.round=none) (l:Nat) (hd:∀ (i:Nat) (o:Oper),ops[i]?=some o→∀ c,o.op ≠ .defer c):∀ (s:List Nat) (a:Act) (w:World),wpOpsIn F n P ops Q s a w→wpOpsIn (F.inRound l) n P ops Q s a w
 | [],_,_,h=>h
 | i :: s,a,w,h=>by
  unfold wpOpsIn at h ⊢;cases hi:ops[i]? with
  | none=>rw [hi] at h;exact opsIn_round hro l hd s a w h
  | some o=>
   rw [hi] at h;dsimp only at h ⊢;by_cases hw:Region.wanted o (yielded ops a.tmps)=true
   ·rw [if_pos hw] at h ⊢;exact operIn_round hro l (hd i o hi) (fun a w h=>opsIn_round hro l hd s a w h) h
   ·rw [if_neg hw] at h ⊢;exact ⟨h.1,opsIn_round hro l hd s _ w h.2⟩
def noDefer (l:List Oper):Bool:=l.all fun o=>match o.op with | .defer _=>false | _=>true
theorem noDefer_spec {l:List Oper} (h:noDefer l=true) (i:Nat) (o:Oper) (ho:l.toArray[i]?=some o) (c:Call):o.op ≠ .defer c:=by
 intro e
 have h1:o∈l:=by
  have:l[i]?=some o:=by simpa using ho
  exact List.mem_of_getElem? this
 have h2:=List.all_eq_true.1 h o h1;rw [e] at h2;exact Bool.noConfusion h2
theorem round_quiet {F:Fence} {n:Nat} {P:Program} {id:Nat} {Q:Exit→Act→World→Prop} {a:Act} {w:World} {l:List Oper} {r:Nat} (hro:F.round=none) (hm:P.follows .mixedOrders=true) (hB:Region.lexB .any l.toArray=true) (hd:noDefer l=true)
  (h:wpQuietIn F n P l.toArray (fun w'=>∃ n,w'=w.drewN n) (fun a'=>∀ w',(∃ n,w'=w.drewN n)→Q .normal a' w') l a):(Code.region id l.toArray true).wpIn (F.inRound r) n P Q a w:=by
 simp only [Region.lexB,Bool.and_eq_true] at hB;refine wpIn_region_draw fun t=>opsIn_round hro r (noDefer_spec hd) _ _ _ ?_;simp only [Region.schedule,hm,Bool.true_or,if_true];refine wpAnyIn_sound _ t _ a _ ?_;refine wpAnyIn_of_quiet (C:=fun w'=>∃ n,w'=w.drewN n) (Q:=fun a'=>∀ w',(∃ n,w'=w.drewN n)→Q .normal a' w') hro (fun _ w' hw' h=>h w' hw') _ _ _ _ ⟨1,rfl⟩ ?_;have:=wpAnyQIn_lex (F:=F) (n:=n) (C:=fun w'=>∃ n,w'=w.drewN n) (md:= .any) hB.1 l 0 (Array.replicate l.toArray.size false) a (by simp) (by simpa using hB.2) h;simpa using this
end
namespace words
theorem ofInt_nat (k a:Nat) (h:a<2 ^ k):(BitVec.ofInt k (a:Int)).toNat=a:=by
 rw [BitVec.ofInt_natCast,BitVec.toNat_ofNat];exact Nat.mod_eq_of_lt h
theorem wrap_u32 (n:Int):IntKind.u32.wrap n=n % 4294967296:=by simp [IntKind.wrap,IntKind.bits,IntKind.signed]
theorem or64 (a b:Nat) (ha:a<2 ^ 64) (hb:b<2 ^ 64):bits .or .u64 (a:Int) (b:Int)=((a ||| b:Nat):Int):=by
 have h:=Nat.or_lt_two_pow ha hb;show IntKind.u64.wrap ((BitVec.ofInt 64 (a:Int) ||| BitVec.ofInt 64 (b:Int)).toNat:Int)=_;rw [BitVec.toNat_or,ofInt_nat 64 a ha,ofInt_nat 64 b hb,IntKind.wrap_u64];omega
theorem and64 (a b:Nat) (ha:a<2 ^ 64) (hb:b<2 ^ 64):bits .and .u64 (a:Int) (b:Int)=((a &&& b:Nat):Int):=by
 have h:a &&& b<2 ^ 64:=Nat.and_lt_two_pow a hb;show IntKind.u64.wrap ((BitVec.ofInt 64 (a:Int) &&& BitVec.ofInt 64 (b:Int)).toNat:Int)=_;rw [BitVec.toNat_and,ofInt_nat 64 a ha,ofInt_nat 64 b hb,IntKind.wrap_u64];omega
theorem or32 (a b:Nat) (ha:a<2 ^ 32) (hb:b<2 ^ 32):bits .or .u32 (a:Int) (b:Int)=((a ||| b:Nat):Int):=by
 have h:=Nat.or_lt_two_pow ha hb;show IntKind.u32.wrap ((BitVec.ofInt 32 (a:Int) ||| BitVec.ofInt 32 (b:Int)).toNat:Int)=_;rw [BitVec.toNat_or,ofInt_nat 32 a ha,ofInt_nat 32 b hb,wrap_u32];omega
theorem andNot32 (a b:Nat) (ha:a<2 ^ 32) (hb:b<2 ^ 32):bits .andNot .u32 (a:Int) (b:Int)=((a &&& (2 ^ 32 - 1 - b):Nat):Int):=by
 have h:a &&& (2 ^ 32 - 1 - b)<2 ^ 32:=Nat.and_lt_two_pow a (by omega);show IntKind.u32.wrap ((BitVec.ofInt 32 (a:Int) &&& ~~~ BitVec.ofInt 32 (b:Int)).toNat:Int)=_;rw [BitVec.toNat_and,BitVec.toNat_not,ofInt_nat 32 a ha,ofInt_nat 32 b hb,wrap_u32];omega
theorem or_words (n x:Int) (n0:0≤n) (n1:n<4294967296) (x0:0≤x) (x1:x<4294967296):bits .or .u64 (n*4294967296) x=n*4294967296+x:=by
 obtain ⟨p,rfl⟩:=Int.eq_ofNat_of_zero_le n0;obtain ⟨q,rfl⟩:=Int.eq_ofNat_of_zero_le x0;have e:((p:Int)*4294967296)=((p*4294967296:Nat):Int):=by simp
 rw [e,or64 _ _ (by omega) (by omega)];have h:=Nat.shiftLeft_add_eq_or_of_lt (show q<2 ^ 32 by omega) p;rw [Nat.shiftLeft_eq] at h;have h2:p*4294967296 ||| q=p*4294967296+q:=h.symm
 rw [h2];simp
end words
end Go.Proofs.YtnpblpbohcegoaaGreatDoor
