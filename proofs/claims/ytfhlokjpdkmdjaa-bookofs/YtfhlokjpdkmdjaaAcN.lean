/- Accounts: plain facts. -/
import Derived.Test.YtfhlokjpdkmdjaaDbN
namespace Go.Proofs.Ytfhlokjpdkmdjaa.acc
open Go.Proofs.Ytfhlokjpdkmdjaa.tar (Du du0 Right MostOf cost)
open Go.Proofs.Ytfhlokjpdkmdjaa.deb (sumD recK ageAll)
set_option linter.unusedVariables false

/-- An account. -/
structure Ac where
  me : Int
  rv : Int
  nx : Int
  mo : Int
  bo : Int
  fr : Int
  ds : List Du
def ac0 : Ac := ⟨0, 0, 0, 0, 0, 0, []⟩
/-- Terms. -/
structure Tm where
  ts : List Du
  ff : Int
  fb : Int
  db : Int
  al : Int
/-- A bill. -/
structure Bi where
  id : Int
  te : Int
  de : Int
  fe : Int
  pr : Int
  ch : Int
  un : Int
def bi0 : Bi := ⟨0, 0, 0, 0, 0, 0, 0⟩
def AMay (a : Ac) : Prop := deb.Mays a.ds ∧ (0 ≤ a.me ∧ a.me ≤ 49) ∧ (0 ≤ a.rv ∧ a.rv ≤ 15) ∧ (1 ≤ a.nx ∧ a.nx ≤ 1048576) ∧ (0 ≤ a.mo ∧ a.mo ≤ 2399) ∧ (0 ≤ a.bo ∧ a.bo ≤ 10000000) ∧ -1 ≤ a.fr ∧ a.fr ≤ a.mo
def TOk (t : Tm) : Prop := (0 ≤ t.ff ∧ t.ff ≤ 100000) ∧ (0 ≤ t.fb ∧ t.fb ≤ 10000) ∧ (0 ≤ t.db ∧ t.db ≤ 10000) ∧ 0 ≤ t.al ∧ t.al ≤ 2097151
def TRight (t : Tm) : Prop := Right t.ts ∧ TOk t
def TFault (t : Tm) (e : Int) : Prop := (¬ Right t.ts ∧ tar.FaultIs t.ts e) ∨ (Right t.ts ∧ ¬ TOk t ∧ e = 2) ∨ (TRight t ∧ e = 0)
theorem TFault.one {t : Tm} {e f : Int} (h : TFault t e) (h' : TFault t f) : e = f := by
  rcases h with ⟨a, b⟩ | ⟨a, b, rfl⟩ | ⟨⟨a, b⟩, rfl⟩ <;> rcases h' with ⟨a', b'⟩ | ⟨a', b', rfl⟩ | ⟨⟨a', b'⟩, rfl⟩ <;> first | rfl | exact b.one b' | contradiction
theorem TFault.ok {t : Tm} {e : Int} (h : TFault t e) : e = 0 ↔ TRight t := by
  rcases h with ⟨a, b⟩ | ⟨a, b, rfl⟩ | ⟨h, rfl⟩
  · exact ⟨fun h => absurd (b.ok.1 h) a, fun h => absurd h.1 a⟩
  · exact ⟨fun h => absurd h (by decide), fun h => absurd h.2 b⟩
  · exact ⟨fun _ => h, fun _ => rfl⟩
def OpenIs (m : Int) (b : Ac) (e : Int) : Prop := ((0 ≤ m ∧ m ≤ 49) ∧ b = ⟨m, 0, 1, 0, 0, -1, []⟩ ∧ e = 0) ∨ (¬ (0 ≤ m ∧ m ≤ 49) ∧ b = ac0 ∧ e = 2)
theorem OpenIs.one {m e e' : Int} {b b' : Ac} (h : OpenIs m b e) (h' : OpenIs m b' e') : b = b' ∧ e = e' := by
  rcases h with ⟨a, rfl, rfl⟩ | ⟨a, rfl, rfl⟩ <;> rcases h' with ⟨a', rfl, rfl⟩ | ⟨a', rfl, rfl⟩ <;> first | exact ⟨rfl, rfl⟩ | contradiction
/-- An account in a month. -/
def rolled (a : Ac) (m : Int) : Ac := if m = a.mo then a else ⟨a.me, a.rv, a.nx, m, 0, a.fr, ageAll a.ds (m - a.mo).toNat⟩
def RMay (a : Ac) (m : Int) : Prop := (0 ≤ m ∧ m ≤ 2399) ∧ a.mo ≤ m
def RErr (a : Ac) (m e : Int) : Prop := (¬ (0 ≤ m ∧ m ≤ 2399) ∧ e = 2) ∨ ((0 ≤ m ∧ m ≤ 2399) ∧ m < a.mo ∧ e = 23)
theorem RErr.one {a : Ac} {m e f : Int} (h : RErr a m e) (h' : RErr a m f) : e = f := by
  rcases h with ⟨p, rfl⟩ | ⟨p, q, rfl⟩ <;> rcases h' with ⟨p', rfl⟩ | ⟨p', q', rfl⟩ <;> first | rfl | contradiction
theorem RErr.ne {a : Ac} {m e : Int} (h : RErr a m e) : e ≠ 0 := by rcases h with ⟨_, rfl⟩ | ⟨_, _, rfl⟩ <;> decide
def RollIs (a : Ac) (m : Int) (b : Ac) (e : Int) : Prop := (¬ AMay a ∧ b = ac0 ∧ e = 5) ∨ (AMay a ∧ ¬ RMay a m ∧ RErr a m e ∧ b = ac0) ∨ (AMay a ∧ RMay a m ∧ b = rolled a m ∧ e = 0)
theorem RollIs.one {a : Ac} {m e e' : Int} {b b' : Ac} (h : RollIs a m b e) (h' : RollIs a m b' e') : b = b' ∧ e = e' := by
  rcases h with ⟨p, rfl, rfl⟩ | ⟨p, q, r, rfl⟩ | ⟨p, q, rfl, rfl⟩ <;> rcases h' with ⟨p', rfl, rfl⟩ | ⟨p', q', r', rfl⟩ | ⟨p', q', rfl, rfl⟩ <;> first | exact ⟨rfl, rfl⟩ | exact ⟨rfl, r.one r'⟩ | contradiction
theorem rolled_may {a : Ac} {m : Int} (h : AMay a) (hr : RMay a m) : AMay (rolled a m) := by
  obtain ⟨h1, h2, h3, h4, h5, h6, h7⟩ := h
  obtain ⟨⟨r1, r2⟩, r3⟩ := hr
  unfold rolled
  by_cases e : m = a.mo
  · rw [if_pos e]; exact ⟨h1, h2, h3, h4, h5, h6, h7⟩
  · rw [if_neg e]
    exact ⟨deb.ageAll_mays h1 _, h2, h3, h4, ⟨r1, r2⟩, ⟨(by decide : (0 : Int) ≤ 0), (by decide : (0 : Int) ≤ 10000000)⟩, h7.1, by show a.fr ≤ m; omega⟩
theorem rolled_same (a : Ac) (m : Int) : (rolled a m).me = a.me ∧ (rolled a m).rv = a.rv ∧ (rolled a m).nx = a.nx ∧ (rolled a m).mo = m ∧ (rolled a m).fr = a.fr := by
  unfold rolled
  by_cases e : m = a.mo
  · rw [if_pos e]; exact ⟨rfl, rfl, rfl, e.symm, rfl⟩
  · rw [if_neg e]; exact ⟨rfl, rfl, rfl, rfl, rfl⟩
theorem rolled_len (a : Ac) (m : Int) : (rolled a m).ds.length = a.ds.length := by
  unfold rolled
  by_cases e : m = a.mo
  · rw [if_pos e]
  · rw [if_neg e]; exact deb.ageAll_len _ _
theorem rolled_roll (a : Ac) (m n : Int) (h1 : a.mo ≤ m) (h2 : m ≤ n) : rolled (rolled a m) n = rolled a n := by
  by_cases e : m = a.mo
  · subst e; rw [show rolled a a.mo = a by unfold rolled; rw [if_pos rfl]]
  · have er : rolled a m = ⟨a.me, a.rv, a.nx, m, 0, a.fr, ageAll a.ds (m - a.mo).toNat⟩ := by unfold rolled; rw [if_neg e]
    by_cases f : n = m
    · subst f
      rw [er]
      unfold rolled
      rw [if_pos rfl]
    · rw [er]
      unfold rolled
      rw [if_neg f, if_neg (by omega)]
      show (⟨a.me, a.rv, a.nx, n, 0, a.fr, ageAll (ageAll a.ds (m - a.mo).toNat) (n - m).toNat⟩ : Ac) = _
      rw [deb.ageAll_add, show (m - a.mo).toNat + (n - m).toNat = (n - a.mo).toNat by omega]
/-- What is to be sold: the share, what goes to debts, the fee, the rest. -/
def share (t : Tm) (te : Int) : Int := te * t.db / 10000
def paid (a : Ac) (t : Tm) (te m : Int) : Int := min (share t te) (sumD (rolled a m).ds)
def fee (t : Tm) (te : Int) : Int := t.ff + te * t.fb / 10000
def rest (a : Ac) (t : Tm) (te m : Int) : Int := te - paid a t te m - fee t te
def Ready (a : Ac) (t : Tm) (m : Int) : Prop := AMay a ∧ TRight t ∧ RMay a m
/-- What is refused ahead of the tender. -/
def Refused (a : Ac) (t : Tm) (m e : Int) : Prop := (¬ AMay a ∧ e = 5) ∨ (AMay a ∧ ¬ TRight t ∧ TFault t e) ∨ (AMay a ∧ TRight t ∧ ¬ RMay a m ∧ RErr a m e)
theorem Refused.one {a : Ac} {t : Tm} {m e f : Int} (h : Refused a t m e) (h' : Refused a t m f) : e = f := by
  rcases h with ⟨p, rfl⟩ | ⟨p, q, r⟩ | ⟨p, q, r, s⟩ <;> rcases h' with ⟨p', rfl⟩ | ⟨p', q', r'⟩ | ⟨p', q', r', s'⟩ <;> first | rfl | exact r.one r' | exact s.one s' | contradiction
theorem Refused.not {a : Ac} {t : Tm} {m e : Int} (h : Refused a t m e) : ¬ Ready a t m := fun hr => by
  rcases h with ⟨p, _⟩ | ⟨_, q, _⟩ | ⟨_, _, r, _⟩
  · exact p hr.1
  · exact q hr.2.1
  · exact r hr.2.2
def TenOk (a : Ac) (t : Tm) (te m : Int) : Prop := (1 ≤ te ∧ te ≤ 100000000) ∧ 0 ≤ rest a t te m ∧ ¬ MostOf t.ts (rolled a m).bo (rest a t te m) 0
def sold (a : Ac) (t : Tm) (te m u : Int) : Ac := ⟨a.me, a.rv, a.nx + 1, m, (rolled a m).bo + u, a.fr, recK (rolled a m).ds (share t te) (rolled a m).ds.length⟩
def bill (a : Ac) (t : Tm) (te m u : Int) : Bi := ⟨a.nx, te, paid a t te m, fee t te, cost t.ts (rolled a m).bo ((rolled a m).bo + u), rest a t te m - cost t.ts (rolled a m).bo ((rolled a m).bo + u), u⟩
def SellIs (a : Ac) (t : Tm) (te m : Int) (b : Ac) (l : Bi) (e : Int) : Prop :=
  (Refused a t m e ∧ b = ac0 ∧ l = bi0) ∨ (Ready a t m ∧ ¬ TenOk a t te m ∧ e = 19 ∧ b = ac0 ∧ l = bi0) ∨ (Ready a t m ∧ TenOk a t te m ∧ ¬ a.nx ≤ 1048575 ∧ e = 20 ∧ b = ac0 ∧ l = bi0) ∨ (Ready a t m ∧ TenOk a t te m ∧ a.nx ≤ 1048575 ∧ e = 0 ∧ ∃ u, MostOf t.ts (rolled a m).bo (rest a t te m) u ∧ b = sold a t te m u ∧ l = bill a t te m u)
theorem SellIs.one {a : Ac} {t : Tm} {te m e e' : Int} {b b' : Ac} {l l' : Bi} (h : SellIs a t te m b l e) (h' : SellIs a t te m b' l' e') : b = b' ∧ l = l' ∧ e = e' := by
  rcases h with ⟨p, rfl, rfl⟩ | ⟨p, q, rfl, rfl, rfl⟩ | ⟨p, q, r, rfl, rfl, rfl⟩ | ⟨p, q, r, rfl, u, hu, rfl, rfl⟩ <;> rcases h' with ⟨p', rfl, rfl⟩ | ⟨p', q', rfl, rfl, rfl⟩ | ⟨p', q', r', rfl, rfl, rfl⟩ | ⟨p', q', r', rfl, u', hu', rfl, rfl⟩ <;> first | exact ⟨rfl, rfl, rfl⟩ | exact ⟨rfl, rfl, p.one p'⟩ | exact absurd p' p.not | exact absurd p p'.not | contradiction | skip
  obtain rfl := hu.one p.2.1.1 (rolled_may p.1 p.2.2).2.2.2.2.2.1.1 hu'
  exact ⟨rfl, rfl, rfl⟩
def granted (a : Ac) (m : Int) : Ac := ⟨a.me, a.rv, a.nx + 1, m, (rolled a m).bo, m, (rolled a m).ds⟩
def GrantIs (a : Ac) (t : Tm) (m : Int) (b : Ac) (l : Bi) (e : Int) : Prop :=
  (Refused a t m e ∧ b = ac0 ∧ l = bi0) ∨ (Ready a t m ∧ t.al = 0 ∧ e = 22 ∧ b = ac0 ∧ l = bi0) ∨ (Ready a t m ∧ ¬ t.al = 0 ∧ a.fr = m ∧ e = 21 ∧ b = ac0 ∧ l = bi0) ∨ (Ready a t m ∧ ¬ t.al = 0 ∧ ¬ a.fr = m ∧ ¬ a.nx ≤ 1048575 ∧ e = 20 ∧ b = ac0 ∧ l = bi0) ∨ (Ready a t m ∧ ¬ t.al = 0 ∧ ¬ a.fr = m ∧ a.nx ≤ 1048575 ∧ e = 0 ∧ b = granted a m ∧ l = ⟨a.nx, 0, 0, 0, 0, 0, t.al⟩)
theorem GrantIs.one {a : Ac} {t : Tm} {m e e' : Int} {b b' : Ac} {l l' : Bi} (h : GrantIs a t m b l e) (h' : GrantIs a t m b' l' e') : b = b' ∧ l = l' ∧ e = e' := by
  rcases h with ⟨p, rfl, rfl⟩ | ⟨p, q, rfl, rfl, rfl⟩ | ⟨p, q, r, rfl, rfl, rfl⟩ | ⟨p, q, r, s, rfl, rfl, rfl⟩ | ⟨p, q, r, s, rfl, rfl, rfl⟩ <;> rcases h' with ⟨p', rfl, rfl⟩ | ⟨p', q', rfl, rfl, rfl⟩ | ⟨p', q', r', rfl, rfl, rfl⟩ | ⟨p', q', r', s', rfl, rfl, rfl⟩ | ⟨p', q', r', s', rfl, rfl, rfl⟩ <;> first | exact ⟨rfl, rfl, rfl⟩ | exact ⟨rfl, rfl, p.one p'⟩ | exact absurd p' p.not | exact absurd p p'.not | contradiction
def OweIs (a : Ac) (d : Du) (b : Ac) (e : Int) : Prop :=
  (¬ AMay a ∧ b = ac0 ∧ e = 5) ∨ (AMay a ∧ ¬ ((1 ≤ d.a ∧ d.a ≤ 1000000000) ∧ 0 ≤ d.b ∧ d.b ≤ 10000) ∧ b = ac0 ∧ e = 2) ∨ (AMay a ∧ ((1 ≤ d.a ∧ d.a ≤ 1000000000) ∧ 0 ≤ d.b ∧ d.b ≤ 10000) ∧ ¬ a.ds.length < 8 ∧ b = ac0 ∧ e = 16) ∨ (AMay a ∧ ((1 ≤ d.a ∧ d.a ≤ 1000000000) ∧ 0 ≤ d.b ∧ d.b ≤ 10000) ∧ a.ds.length < 8 ∧ b = ⟨a.me, a.rv, a.nx, a.mo, a.bo, a.fr, a.ds ++ [d]⟩ ∧ e = 0)
theorem OweIs.one {a : Ac} {d : Du} {e e' : Int} {b b' : Ac} (h : OweIs a d b e) (h' : OweIs a d b' e') : b = b' ∧ e = e' := by
  rcases h with ⟨p, rfl, rfl⟩ | ⟨p, q, rfl, rfl⟩ | ⟨p, q, r, rfl, rfl⟩ | ⟨p, q, r, rfl, rfl⟩ <;> rcases h' with ⟨p', rfl, rfl⟩ | ⟨p', q', rfl, rfl⟩ | ⟨p', q', r', rfl, rfl⟩ | ⟨p', q', r', rfl, rfl⟩ <;> first | exact ⟨rfl, rfl⟩ | contradiction
def RekeyIs (a : Ac) (b : Ac) (l : Bi) (e : Int) : Prop :=
  (¬ AMay a ∧ b = ac0 ∧ l = bi0 ∧ e = 5) ∨ (AMay a ∧ ¬ a.rv < 15 ∧ b = ac0 ∧ l = bi0 ∧ e = 24) ∨ (AMay a ∧ a.rv < 15 ∧ ¬ a.nx ≤ 1048575 ∧ b = ac0 ∧ l = bi0 ∧ e = 20) ∨ (AMay a ∧ a.rv < 15 ∧ a.nx ≤ 1048575 ∧ b = ⟨a.me, a.rv + 1, a.nx + 1, a.mo, a.bo, a.fr, a.ds⟩ ∧ l = ⟨a.nx, 0, 0, 0, 0, 0, 0⟩ ∧ e = 0)
theorem RekeyIs.one {a : Ac} {e e' : Int} {b b' : Ac} {l l' : Bi} (h : RekeyIs a b l e) (h' : RekeyIs a b' l' e') : b = b' ∧ l = l' ∧ e = e' := by
  rcases h with ⟨p, rfl, rfl, rfl⟩ | ⟨p, q, rfl, rfl, rfl⟩ | ⟨p, q, r, rfl, rfl, rfl⟩ | ⟨p, q, r, rfl, rfl, rfl⟩ <;> rcases h' with ⟨p', rfl, rfl, rfl⟩ | ⟨p', q', rfl, rfl, rfl⟩ | ⟨p', q', r', rfl, rfl, rfl⟩ | ⟨p', q', r', rfl, rfl, rfl⟩ <;> first | exact ⟨rfl, rfl, rfl⟩ | contradiction

end Go.Proofs.Ytfhlokjpdkmdjaa.acc
