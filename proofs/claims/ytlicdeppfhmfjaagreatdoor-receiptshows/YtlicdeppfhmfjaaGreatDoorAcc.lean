/- What Plus and Times do to a number that is carried on. -/
import Derived.Test.YtlicdeppfhmfjaaGreatDoorAccB
namespace Go.Proofs.YtlicdeppfhmfjaaGreatDoor.words
open Go.RowKit

theorem cutWord_any (B : Nat) (n : Int) (w : World) (hc : w.cell? ⟨B, 0, none⟩ = some (.int .u64 n)) (hf : w.frozen? ⟨B, 0, none⟩ = false) :
    Calls Tryz.prog 123 #[.pointer (some ⟨B, 0, none⟩)] w fun e w' => e = .returned (.int .u32 (n % 4294967296)) ∧ w' = w.setCell ⟨B, 0, none⟩ (.int .u64 (n / 4294967296)) := by
  go_enter Tryz.func123, Tryz.ntmps123
  go_wp2
  go_ret
  exact ⟨rfl, rfl⟩

/-- A number's word, carried on by Plus. -/
theorem plusStep_any (B : Nat) (n x : Int) (w : World) (hc : w.cell? ⟨B, 0, none⟩ = some (.int .u64 n)) (hf : w.frozen? ⟨B, 0, none⟩ = false) (h0 : 0 ≤ n) (h1 : n ≤ 4294967296) (x0 : 0 ≤ x) (x1 : x < 4294967296) :
    Calls Tryz.prog 129 #[.int .u32 x, .pointer (some ⟨B, 0, none⟩)] w fun e w' => e = .returned (.int .u32 ((n + x) % 4294967296)) ∧ Acc w w' B (.int .u64 ((n + x) / 4294967296)) := by
  have hA : Acc w w B (.int .u64 n) := Acc.refl hc hf
  have HA : Hid (Acc w w B (.int .u64 n)) := hA
  clear hA
  go_enter Tryz.func129, Tryz.ntmps129
  go_wp2_with fail
  refine (cutWord_any B (n + x) _ (by apply World.cell?_setCell_same; exact hc) (by rw [World.frozen?_setCell]; exact hf)).mono ?_
  rintro e w' ⟨rfl, rfl⟩
  go_wp2_with fail
  go_ret
  exact ⟨rfl, (HA.out.set _).set _⟩

/-- A number's word, carried on by Times. -/
theorem timesStep_any (B M : Nat) (n x m : Int) (w : World) (hc : w.cell? ⟨B, 0, none⟩ = some (.int .u64 n)) (hf : w.frozen? ⟨B, 0, none⟩ = false) (hm : w.cell? ⟨M, 0, none⟩ = some (.int .u32 m)) (h0 : 0 ≤ n) (h1 : n < 4294967296) (x0 : 0 ≤ x) (x1 : x < 4294967296) (m0 : 0 ≤ m) (m1 : m < 4294967296) :
    Calls Tryz.prog 122 #[.int .u32 x, .pointer (some ⟨B, 0, none⟩), .pointer (some ⟨M, 0, none⟩)] w fun e w' => e = .returned (.int .u32 ((n + x * m) % 4294967296)) ∧ Acc w w' B (.int .u64 ((n + x * m) / 4294967296)) := by
  have hA : Acc w w B (.int .u64 n) := Acc.refl hc hf
  have HA : Hid (Acc w w B (.int .u64 n)) := hA
  obtain ⟨p1, p2⟩ := prod_bd x0 x1 m0 m1
  clear hA
  go_enter Tryz.func122, Tryz.ntmps122
  go_wp2_with fail
  refine (cutWord_any B (n + x * m) _ (by apply World.cell?_setCell_same; exact hc) (by rw [World.frozen?_setCell]; exact hf)).mono ?_
  rintro e w' ⟨rfl, rfl⟩
  go_wp2_with fail
  go_ret
  exact ⟨rfl, (HA.out.set _).set _⟩

theorem run_plusStep (args : Array Value) (w : World) : (callFunc 129 args).run Tryz.prog w = .ok (.enter 129 args) w := by kernel_rfl

end Go.Proofs.YtlicdeppfhmfjaaGreatDoor.words
