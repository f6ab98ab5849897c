/- The two tables of token, out of what a row says of them; raw numbers that came in. -/
import Derived.Test.YtlicdeppfhmfjaaGreatDoorTkOpen
import Derived.LaidLaws
namespace Go.Proofs.YtlicdeppfhmfjaaGreatDoor.token
open Go.ChangeShapes Go.WideShapes Go.ChangeAt Go.RowKit Go.Deep
set_option maxRecDepth 100000

theorem laid_tail {P : Program} {x : String × DataW Unit} {rest : List (String × DataW Unit)} {W : World} (h : laidMet P (x :: rest) W) : laidMet P rest W := by
  obtain ⟨ps, ⟨g, t, cs, fuel, p, q, _, _, _, _, hrest, hps⟩, hnd, hcell⟩ := h
  subst hps
  exact ⟨q, hrest, (List.nodup_append.1 hnd).2.1, fun b off hm => hcell b off (List.mem_append_right _ hm)⟩
theorem ttab_of {W : World} {n1 n2 : String} (h1 : Tryz.prog.globalNamed n1 = some 0) (h2 : Tryz.prog.globalNamed n2 = some 1)
    (h : laidMet Tryz.prog [(n1, .agg [.agg [.lit (.int .i64 57), .lit (.int .i64 3)], .agg [.lit (.int .i64 37), .lit (.int .i64 20)], .agg [.lit (.int .i64 16), .lit (.int .i64 21)], .agg [.lit (.int .i64 0), .lit (.int .i64 16)]]),
      (n2, .agg [.agg [.lit (.int .i64 1), .lit (.int .i64 2097151)], .agg [.lit (.int .i64 0), .lit (.int .i64 0)], .agg [.lit (.int .i64 1), .lit (.int .i64 15)], .agg [.lit (.int .i64 0), .lit (.int .i64 0)]])] W) : TTab W :=
  ⟨eight_of h1 (by kernel_rfl) Tryz.underlying135 (by kernel_rfl) (by kernel_rfl) Tryz.underlying134 (by kernel_rfl) Tryz.underlying3 rfl rfl h,
   eight_of h2 (by kernel_rfl) Tryz.underlying140 (by kernel_rfl) (by kernel_rfl) Tryz.underlying139 (by kernel_rfl) Tryz.underlying3 rfl rfl (laid_tail h)⟩

end Go.Proofs.YtlicdeppfhmfjaaGreatDoor.token
