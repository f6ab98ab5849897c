/- Where the order is open: a call that changes nothing may be thought of as coming up first. -/
import Derived.Test.YtlianhienbhbgaaDoorLet
namespace Go.Proofs.YtlianhienbhbgaaDoor
open Go.RowKit

section
variable {P : Program} {ops : Array Oper} {Q : Exit → Act → World → Prop} {md : Region.Mode} {S : World → Prop}
/-- In the state a, in every world of S, the operation is a call of f with these arguments. -/
structure EntersIf (P : Program) (ops : Array Oper) (S : World → Prop) (o : Oper) (f : FuncId) (args : Array Value) (a : Act) : Prop where
  want : Region.wanted o (yielded ops a.tmps) = true
  run : ∀ w, S w → (execOp a.eval o).run P w = .ok (.enter f args) w
/-- And the call gives v, and leaves the world as it is. -/
def Gives (P : Program) (S : World → Prop) (f : FuncId) (args : Array Value) (v : Value) : Prop := ∀ w, S w → Calls P f args w fun e w' => e = .returned v ∧ w' = w
theorem EntersIf.now {o : Oper} {f : FuncId} {args : Array Value} {a : Act} {v : Value} {i : Nat} (h : EntersIf P ops S o f args a) (hg : Gives P S f args v) (hi : ops[i]? = some o) {K : Act → World → Prop} {w : World} (hS : S w) (hk : K (a.put o.dst v) w) : wpOp P ops Q i K a w := by
  unfold wpOp
  simp only [hi, h.want, if_true]
  left
  unfold Oper.wp
  rw [h.run w hS, Oper.upon_enter]
  refine (hg w hS).mono fun e w' he => ?_
  obtain ⟨rfl, rfl⟩ := he
  exact hk
/-- Another operation, apart from it, neither sees it nor is seen. -/
theorem EntersIf.apart {o p : Oper} {f : FuncId} {args : Array Value} {v : Value} {j : Nat} (hj : ops[j]? = some p) (hap : o.apart ops p = true) (hso : ∀ cs b, o.op ≠ .select cs b) (hsp : ∀ cs b, p.op ≠ .select cs b)
    (hQ : ∀ c a w, Q (.panic c) (a.put o.dst v) w → Q (.panic c) a w) {K : Act → World → Prop} {a : Act} {w : World} (he : EntersIf P ops S o f args a) (h : wpOp P ops Q j K (a.put o.dst v) w) :
    wpOp P ops Q j (fun a' w' => EntersIf P ops S o f args a' ∧ K (a'.put o.dst v) w') a w := by
  obtain ⟨n1, n2, n3⟩ := Oper.apart_spec hap
  have stay : ∀ b : Act, EntersIf P ops S o f args b → ∀ u, EntersIf P ops S o f args (b.put p.dst u) := fun b hb u => ⟨by rw [wanted_put o b p.dst u n3]; exact hb.want, fun w hw => by rw [execOp_put o hso b p.dst u n3]; exact hb.run w hw⟩
  have both : ∀ (b : Act) (u : Value) (w' : World), EntersIf P ops S o f args b → K ((b.put o.dst v).put p.dst u) w' → EntersIf P ops S o f args (b.put p.dst u) ∧ K ((b.put p.dst u).put o.dst v) w' := fun b u w' hb hk => ⟨stay b hb u, by rw [← Act.put_comm b v u n2]; exact hk⟩
  unfold wpOp at h ⊢
  simp only [hj] at h ⊢
  rw [wanted_put p a o.dst v n1] at h
  by_cases hw : Region.wanted p (yielded ops a.tmps) = true
  · rw [if_pos hw] at h ⊢
    rcases h with h | ⟨h, hl⟩
    · left
      unfold Oper.wp at h ⊢
      rw [execOp_put p hsp a o.dst v n1] at h
      cases hr : (execOp a.eval p).run P w with
      | halt x w' =>
        rw [hr] at h
        cases x <;> simp only [Oper.upon] at h ⊢
        exact hQ _ _ _ h
      | ok n w' =>
        rw [hr] at h
        cases n with
        | value u => exact both a u w' he h
        | skip => exact both a undef w' he h
        | defer d =>
          simp only [Oper.upon] at h ⊢
          rw [Act.put_defers] at h
          exact both _ _ _ ⟨he.want, he.run⟩ h
        | enter g xs =>
          simp only [Oper.upon] at h ⊢
          refine Calls.mono h fun e w'' hx => ?_
          cases e with
          | returned u => exact both a u w'' he hx
          | panicked c => exact hQ _ _ _ hx
          | outgrown => exact hx
        | row r xs =>
          simp only [Oper.upon] at h ⊢
          exact Rows.mono h fun u w'' hx => both a u w'' he hx
        | _ => exact False.elim h
    · right
      unfold Oper.asks at h ⊢
      rw [execOp_put p hsp a o.dst v n1] at h
      exact ⟨h, hl⟩
  · rw [if_neg hw] at h ⊢
    exact both a undef w he h
/-- THE CALL FIRST. -/
theorem call_first {i : Nat} {o : Oper} {f : FuncId} {args : Array Value} {v : Value} (hi : ops[i]? = some o) (hsel : ∀ (j : Nat) (o : Oper) cs b, ops[j]? = some o → o.op ≠ .select cs b)
    (hQ : ∀ c a w, Q (.panic c) (a.put o.dst v) w → Q (.panic c) a w) (hg : Gives P S f args v) (fuel : Nat) : ∀ (listed : Array Bool) (a : Act) (w : World),
      (∀ j p, ops[j]? = some p → j ≠ i → listed.getD j true = false → (∀ e ∈ p.after, Region.binds md e = true → e.on ≠ i) → o.apart ops p = true) →
      i ∈ Region.ready md ops listed → EntersIf P ops S o f args a → S w →
      wpAnyH P md ops Q S fuel (listed.setIfInBounds i true) (a.put o.dst v) w → wpAnyH P md ops Q S (fuel + 1) listed a w := by
  induction fuel with
  | zero =>
    intro listed a w _ hr he hS H
    refine ⟨fun h => absurd hr (by rw [h]; exact List.not_mem_nil), fun j hj => ?_⟩
    by_cases e : j = i
    · rw [e]; exact he.now hg hi hS ⟨hS, H⟩
    · have := ready_mono hj e
      rw [H.1] at this
      exact absurd this List.not_mem_nil
  | succ fuel ih =>
    intro listed a w hfree hr he hS H
    refine ⟨fun h => absurd hr (by rw [h]; exact List.not_mem_nil), fun j hj => ?_⟩
    by_cases e : j = i
    · rw [e]; exact he.now hg hi hS ⟨hS, H⟩
    · obtain ⟨hun, p, hp, hall⟩ := mem_ready.1 hj
      have hno : ∀ x ∈ p.after, Region.binds md x = true → x.on ≠ i := fun x hx hb hxi => by
        have h1 := hall x hx hb
        have h0 := (mem_ready.1 hr).1
        rw [hxi] at h1
        by_cases hlt : i < listed.size
        · simp [hlt] at h0 h1
          rw [h0] at h1; cases h1
        · simp [hlt] at h1
      have h2 := EntersIf.apart hp (hfree j p hp e hun hno) (fun cs b => hsel i o cs b hi) (fun cs b => hsel j p cs b hp) hQ he (H.2 j (ready_mono hj e))
      refine wpOp_mono (fun a' w' h3 => ⟨h3.2.1, ih (listed.setIfInBounds j true) a' w' (fun k q hq hki hku hkn => hfree k q hq hki ?_ hkn) (ready_mono hr (Ne.symm e)) h3.1 h3.2.1 ?_⟩) h2
      · by_cases hjk : j = k
        · rw [← hjk]; exact hun
        · rw [getD_set_ne true hjk] at hku; exact hku
      · rw [Array.setIfInBounds_comm _ _ e]; exact h3.2.2
theorem call_at {fuel : Nat} {listed : Array Bool} {a : Act} {w : World} (i d : Nat) (v : Value) (o : Oper) (hi : ops[i]? = some o) (hd : o.dst = some d)
    (hs : Region.noSelect ops = true) (hf : Region.free md ops listed i = true) (hr : (Region.ready md ops listed).contains i = true)
    (hQ : ∀ c a w, Q (.panic c) (a.put o.dst v) w → Q (.panic c) a w) (f : FuncId) (args : Array Value) (he : EntersIf P ops S o f args a) (hg : Gives P S f args v) (hS : S w)
    (h : wpAnyH P md ops Q S fuel (listed.setIfInBounds i true) (a.put (some d) v) w) : wpAnyH P md ops Q S (fuel + 1) listed a w :=
  call_first hi (Region.noSelect_spec hs) hQ hg fuel listed a w (Region.free_spec hi hf) (by simpa using hr) he hS (by rw [hd]; exact h)
end

end Go.Proofs.YtlianhienbhbgaaDoor
