/- Two structs are compared, where what comes of it is known. -/
import Derived.Test.YtfhlokjpdkmdjaaOpAt
import Derived.WalkKit
namespace Go.Proofs.Ytfhlokjpdkmdjaa
open Go.RowKit

theorem run_neOp {P : Program} {o : Oper} {a : Act} {w : World} (ty rt : TypeId) (x y : Operand) (ho : o.op = .binOp .neq ty x y rt) (ca cb : Array Value) (hx : a.eval x = .agg ca) (hy : a.eval y = .agg cb) (hg : P.eqGuardType P.depth ty = false) (b : Bool)
    (hr : (Op.equalIn 10000 ty (.agg ca) (.agg cb)).run P w = .ok b w) : (execOp a.eval o).run P w = .ok (.value (.bool (!b))) w := by
  have hr' : (Op.equal ty (.agg ca) (.agg cb)).run P w = .ok b w := hr
  unfold execOp
  simp only [ho, hx, hy]
  have hp : ∀ w' : World, (program : Sem Program).run P w' = .ok P w' := fun _ => rfl
  simp [eqGuard, hg, binOp, hr', hp, Sem.run_bind]
theorem wp_neE {P : Program} {ops : Array Oper} {rest : List Oper} {o : Oper} {a : Act} {w : World} {Q : Exit → Act → World → Prop} (hw : Region.wanted o (yielded ops a.tmps) = true) (ty rt : TypeId) (x y : Operand) (ho : o.op = .binOp .neq ty x y rt) (ca cb : Array Value) (hx : a.eval x = .agg ca) (hy : a.eval y = .agg cb) (hg : P.eqGuardType P.depth ty = false) (b : Bool)
    (hr : (Op.equalIn 10000 ty (.agg ca) (.agg cb)).run P w = .ok b w) (d : Nat) (hd : o.dst = some d) (h : wpList P ops Q rest (a.put (some d) (.bool (!b))) w) : wpList P ops Q (o :: rest) a w :=
  wpList_step fun K hK => by
    rw [if_pos hw]
    exact wp_runOp d hd (run_neOp ty rt x y ho ca cb hx hy hg b hr) (hK _ _ h)

end Go.Proofs.Ytfhlokjpdkmdjaa
