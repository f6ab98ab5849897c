/- disk.Append: what it does. -/
import Derived.Test.YtfllkhlnnihndaaDqL
import Derived.Test.YtfllkhlnnihndaaDqE
import Derived.Test.YtfllkhlnnihndaaKkA
namespace Go.Proofs.Ytfllkhlnnihndaa.disk
open Go.RowKit Go.Proofs.Ytfllkhlnnihndaa.cell
set_option maxRecDepth 100000
set_option linter.unusedVariables false
set_option linter.unusedSimpArgs false

theorem nothing_done (v : Value) (w : World) : Calls Try.prog 28 #[v] w fun e w' => e = .returned (.tuple #[]) ∧ w' = w := by
  go_enter Try.func28, Try.ntmps28
  go_wp2_with fail
  go_end0
  exact ⟨rfl, rfl⟩
set_option maxHeartbeats 4000000 in
theorem kappend : KAppend := by
  intro w a n cap c b m cap2 r h hnil hcap hby hw h2 hnil2 hcap2 hby2 hw2
  have hrl := h2.1
  by_cases hmay : 1 ≤ m ∧ m ≤ 64
  · have HE : Hid (Calls Try.prog 23 #[.slice a n cap, .func (.func 28) #[] #[]] w fun e w' => EPost (fun _ W => W = w) c e w') := by
      refine each_any 28 #[] (fun _ W => W = w) a n cap c w (fun k W hj => by rw [hj]; exact h) rfl hcap hw (fun _ _ => by kernel_rfl) ?_
      intro k p m b o W hj hp hit hr h1 h2 h3
      refine (nothing_done _ W).mono ?_
      rintro e w' ⟨rfl, rfl⟩
      exact ⟨rfl, hj⟩
    have HMY : Hid (RMay r) := ⟨by omega, by omega⟩
    have HN : Hid (c.length = n ∧ r.length = m) := ⟨h.1, hrl⟩
    have HL : Hid (∀ p : Nat, p ≤ 2048 → n ≤ 2048 → Calls Try.prog 29 #[.slice b m cap2, .int .i64 (p : Int), .int .i64 (n : Int)] w fun e w' => ∃ V, e = .returned V ∧ Lw w' w.heap.size V (appW c p r) ∧ Below w.heap.size w w') := fun p hp hn => laying_any b m cap2 r c p n w h2 hmay.1 hmay.2 hp hn h.1
    obtain ⟨hm1, hm2⟩ := hmay
    have d1 : decide ((m : Int) < 1) = false := by simp; omega
    have d2 : decide ((64 : Int) < (m : Int)) = false := by simp; omega
    clear h hnil hcap hby hw h2 hnil2 hcap2 hby2 hw2 hrl
    go_enter Try.func14, Try.ntmps14
    go_wp2_with fail
    refine HE.out.mono ?_
    rintro e w1 ⟨x, f, k, rfl, hj, hi⟩
    subst hj
    have HI : Hid ((¬ May c ∧ x = 0 ∧ f = 1) ∨ (May c ∧ lenAt c (repD c).2 < 0 ∧ x = 0 ∧ f = 3) ∨ (May c ∧ lenAt c (repD c).2 = 0 ∧ repD c = itD c k ∧ x = ((repD c).2 : Int) ∧ f = 0)) := hi
    clear hi HE d1 d2
    by_cases hf : f = 0
    · obtain ⟨hmy, hl0, hx⟩ : May c ∧ lenAt c (repD c).2 = 0 ∧ x = ((repD c).2 : Int) := by
        rcases HI.out with ⟨_, _, e⟩ | ⟨_, _, _, e⟩ | ⟨q1, q2, _, q4, _⟩
        · rw [hf] at e; exact absurd e (by decide)
        · rw [hf] at e; exact absurd e (by decide)
        · exact ⟨q1, q2, q4⟩
      have HPB : Hid ((repD c).2 ≤ n) := by show _ ≤ _; rw [← HN.out.1]; exact rep_bound c
      have HFU : Hid (n ≤ (repD c).2 + m → AppIs c r [] 16) := fun hh => .inr (.inr (.inr (.inl ⟨HMY.out, hmy, hl0, by rw [HN.out.1, HN.out.2]; exact hh, rfl, rfl⟩)))
      have HOK : Hid ((repD c).2 + m < n → AppIs c r (appW c (repD c).2 r) 0) := fun hh => .inr (.inr (.inr (.inr ⟨HMY.out, hmy, hl0, by rw [HN.out.1, HN.out.2]; exact hh, rfl, rfl⟩)))
      have hn2 : n ≤ 2048 := by have := hmy.2; rw [HN.out.1] at this; exact this
      subst hf
      subst hx
      clear HI hmy hl0 HMY
      generalize (repD c).2 = p at *
      have hpn := HPB.out
      clear HPB
      by_cases hfu : n ≤ p + m
      · have HA : Hid (AppIs c r [] 16) := HFU.out hfu
        have e1 : decide ((n : Int) < (p : Int) + 1 + (m : Int)) = true := by simp; omega
        clear HFU HOK HL
        go_wp2_with fail
        go_ret2
        exact ⟨none, 0, 0, [], 16, rfl, RowW.nil _ _, (fun x hx => by cases hx), Nat.le_refl _, Nat.zero_le _, HA.out, Below.refl _ _⟩
      · have HA : Hid (AppIs c r (appW c p r) 0) := HOK.out (by omega)
        have e1 : decide ((n : Int) < (p : Int) + 1 + (m : Int)) = false := by simp; omega
        have HL1 := HL.out p (by omega) hn2
        have HLY : Hid (Calls Try.prog 29 #[.slice b m cap2, .int .i64 (p : Int), .int .i64 (n : Int)] w1 fun e w' => ∃ V, e = .returned V ∧ Lw w' w1.heap.size V (appW c p r) ∧ Below w1.heap.size w1 w') := HL1
        clear HFU HOK HL HL1
        go_wp2_with fail
        refine HLY.out.mono ?_
        rintro e w2 ⟨V, rfl, hlw, hb⟩
        obtain ⟨va, vc, rfl, hrow, _, hle, _⟩ := hlw.row
        have HNW : Hid (∀ x, va = some x → w1.heap.size ≤ x.block) := fun x hx => by
          subst hx
          exact (World.ownsRow.lt hlw x.block rfl).1
        have HRW : Hid (RowW w2 va (appW c p r).length (appW c p r)) := hrow
        have HLE : Hid ((appW c p r).length ≤ vc) := hle
        have HFW : Hid ((appW c p r).length ≤ 100000) := Nat.le_trans (app_few HA.out) (by decide)
        have HB2 : Hid (Below w1.heap.size w1 w2) := hb
        clear hlw hb hrow hle HLY
        generalize appW c p r = ls at *
        generalize hzl : ls.length = zl at *
        clear hzl
        go_wp2_with fail
        go_ret2
        exact ⟨va, _, vc, ls, 0, rfl, HRW.out, HNW.out, HLE.out, HFW.out, HA.out, HB2.out⟩
    · have HA : Hid (AppIs c r [] f) := by
        rcases HI.out with ⟨q1, _, rfl⟩ | ⟨q1, q2, _, rfl⟩ | ⟨_, _, _, _, e⟩
        · exact .inr (.inl ⟨HMY.out, q1, rfl, rfl⟩)
        · exact .inr (.inr (.inl ⟨HMY.out, q1, q2, rfl, rfl⟩))
        · exact absurd e hf
      have hne : (f != 0) = true := by simpa using hf
      clear HI hf HL
      go_wp2_with fail
      go_ret2
      exact ⟨none, 0, 0, [], f, rfl, RowW.nil _ _, (fun x hx => by cases hx), Nat.le_refl _, Nat.zero_le _, HA.out, Below.refl _ _⟩
  · have HA : Hid (AppIs c r [] 1) := .inl ⟨fun h => hmay ⟨by rw [← hrl]; exact h.1, by rw [← hrl]; exact h.2⟩, rfl, rfl⟩
    clear h hnil hcap hby hw h2 hnil2 hcap2 hby2 hw2 hrl
    go_enter Try.func14, Try.ntmps14
    by_cases h1 : 1 ≤ m
    · have d1 : decide ((m : Int) < 1) = false := by simp; omega
      have d2 : decide ((64 : Int) < (m : Int)) = true := by simp; omega
      go_wp2_with fail
      go_ret2
      exact ⟨none, 0, 0, [], 1, rfl, RowW.nil _ _, (fun x hx => by cases hx), Nat.le_refl _, Nat.zero_le _, HA.out, Below.refl _ _⟩
    · have d1 : decide ((m : Int) < 1) = true := by simp; omega
      go_wp2_with fail
      go_ret2
      exact ⟨none, 0, 0, [], 1, rfl, RowW.nil _ _, (fun x hx => by cases hx), Nat.le_refl _, Nat.zero_le _, HA.out, Below.refl _ _⟩

end Go.Proofs.Ytfllkhlnnihndaa.disk
