/- Tokens, and their twenty digits: plain facts. -/
import Derived.Test.YtnhidiefchamlaaDoorBitw
import Derived.Test.YtnhidiefchamlaaDoorDec10
import Derived.Test.YtnhidiefchamlaaDoorCkTxt
namespace Go.Proofs.YtnhidiefchamlaaDoor.token
open Go.Proofs.YtnhidiefchamlaaDoor.words Go.Proofs.YtnhidiefchamlaaDoor.check
open Go.RowKit

/-- A token of natural numbers. -/
structure Tok where
  c : Nat
  i : Nat
  a : Nat
  t : Nat
/-- May it be? (P4.1) -/
def okB (k : Tok) : Bool := decide (k.c ≤ 3) && decide (1 ≤ k.i) && decide (k.i ≤ 1048575) && decide (k.t ≤ 65535) &&
  (if k.c = 0 then decide (1 ≤ k.a) && decide (k.a ≤ 2097151) else if k.c = 2 then decide (1 ≤ k.a) && decide (k.a ≤ 15) else decide (k.a = 0))
structure Tok.ok (k : Tok) : Prop where
  c3 : k.c ≤ 3
  i1 : 1 ≤ k.i
  i2 : k.i ≤ 1048575
  t2 : k.t ≤ 65535
  a2 : k.a ≤ 2097151
  a0 : k.c = 0 → 1 ≤ k.a
  ac : k.c = 2 → 1 ≤ k.a ∧ k.a ≤ 15
  az : k.c = 1 ∨ k.c = 3 → k.a = 0
theorem okB_ok {k : Tok} : okB k = true ↔ k.ok := by
  unfold okB
  by_cases h0 : k.c = 0
  · rw [if_pos h0]; simp only [Bool.and_eq_true, decide_eq_true_eq]
    exact ⟨fun h => ⟨by omega, by omega, by omega, by omega, by omega, by omega, by omega, by omega⟩, fun h => ⟨⟨⟨⟨h.c3, h.i1⟩, h.i2⟩, h.t2⟩, h.a0 h0, h.a2⟩⟩
  · rw [if_neg h0]
    by_cases h2 : k.c = 2
    · rw [if_pos h2]; simp only [Bool.and_eq_true, decide_eq_true_eq]
      exact ⟨fun h => ⟨by omega, by omega, by omega, by omega, by omega, by omega, by omega, by omega⟩, fun h => ⟨⟨⟨⟨h.c3, h.i1⟩, h.i2⟩, h.t2⟩, h.ac h2⟩⟩
    · rw [if_neg h2]; simp only [Bool.and_eq_true, decide_eq_true_eq]
      exact ⟨fun h => ⟨by omega, by omega, by omega, by omega, by omega, by omega, by omega, by omega⟩, fun h => ⟨⟨⟨⟨h.c3, h.i1⟩, h.i2⟩, h.t2⟩, h.az (by have := h.c3; omega)⟩⟩
/-- All of its bits, as a number. -/
def Tok.num (k : Tok) : Nat := k.c * 144115188075855872 + k.i * 137438953472 + k.a * 65536 + k.t
/-- All but the tag. -/
def Tok.body (k : Tok) : Nat := k.c * 2199023255552 + k.i * 2097152 + k.a
def Tok.v (k : Tok) : Value := .agg #[.int .i64 (k.c : Int), .int .i64 (k.i : Int), .int .i64 (k.a : Int), .int .i64 (k.t : Int)]
def noTok : Value := .agg #[.int .i64 0, .int .i64 0, .int .i64 0, .int .i64 0]
/-- The token that a number tells, whether it may be or not. -/
def tokOf (n : Nat) : Tok := ⟨n / 144115188075855872 % 8, n / 137438953472 % 1048576, n / 65536 % 2097152, n % 65536⟩

theorem num_lt {k : Tok} (h : k.ok) : k.num < 576460752303423488 := by
  have := h.c3; have := h.i2; have := h.t2; have := h.a2
  unfold Tok.num; omega
theorem num_bd {k : Tok} (h : k.ok) : 97 * k.num < 73786976294838206464 := by have := num_lt h; omega
theorem tokOf_num {k : Tok} (h : k.ok) : tokOf k.num = k := by
  have := h.c3; have := h.i2; have := h.t2; have := h.a2
  obtain ⟨c, i, a, t⟩ := k
  simp only [tokOf, Tok.num, Tok.mk.injEq] at *
  omega
theorem num_tokOf {n : Nat} (h : n < 1152921504606846976) : (tokOf n).num = n := by
  unfold tokOf Tok.num; simp only; omega
theorem num_inj {k l : Tok} (hk : k.ok) (hl : l.ok) (h : k.num = l.num) : k = l := by
  rw [← tokOf_num hk, ← tokOf_num hl, h]
theorem body_num {k : Tok} (h : k.ok) : k.num / 65536 % 8796093022208 = k.body := by
  have := h.c3; have := h.i2; have := h.t2; have := h.a2
  unfold Tok.num Tok.body; omega
theorem body_bd {k : Tok} (h : k.ok) : k.body ≤ 8796093022207 := by
  have := h.c3; have := h.i2; have := h.t2; have := h.a2
  unfold Tok.body; omega
theorem body_inj {k l : Tok} (hk : k.ok) (hl : l.ok) (h : k.body = l.body) : k.c = l.c ∧ k.i = l.i ∧ k.a = l.a := by
  have := hk.c3; have := hk.i2; have := hk.a2
  have := hl.c3; have := hl.i2; have := hl.a2
  unfold Tok.body at h; omega

/-- The number that a text of digits tells. -/
def dv (l : List UInt8) : Nat := l.foldl (fun n c => n * 10 + (c.toNat - 48)) 0
theorem dv_snoc (l : List UInt8) (c : UInt8) : dv (l ++ [c]) = dv l * 10 + (c.toNat - 48) := by simp [dv, List.foldl_append]
theorem allD_snoc {l : List UInt8} {c : UInt8} (h : allD (l ++ [c]) = true) : allD l = true ∧ isD c = true := by
  rw [allD_append, Bool.and_eq_true] at h
  exact ⟨h.1, by simpa [allD] using h.2⟩
theorem dv_lt (l : List UInt8) (h : allD l = true) : dv l < 10 ^ l.length := by
  induction l using list_snoc_ind with
  | h0 => decide
  | h1 l c ih =>
    have h2 := allD_snoc h
    have h3 := ih h2.1
    have h4 := isD_bd h2.2
    rw [dv_snoc, List.length_append, List.length_singleton, Nat.pow_succ]
    omega
theorem snoc_len {α : Type} {l : List α} {n : Nat} (h : l.length = n + 1) : ∃ m c, l = m ++ [c] ∧ m.length = n := by
  have hne : l ≠ [] := by intro e; rw [e] at h; cases h
  exact ⟨l.dropLast, l.getLast hne, (List.dropLast_concat_getLast hne).symm, by rw [List.length_dropLast, h]; rfl⟩
/-- Digits of one length are told by their number. -/
theorem dv_inj (n : Nat) : ∀ l m : List UInt8, l.length = n → m.length = n → allD l = true → allD m = true → dv l = dv m → l = m := by
  induction n with
  | zero => intro l m hl hm _ _ _; rw [List.eq_nil_of_length_eq_zero hl, List.eq_nil_of_length_eq_zero hm]
  | succ n ih =>
    intro l m hl hm dl dm h
    obtain ⟨l, c, rfl, hl'⟩ := snoc_len hl
    obtain ⟨m, e, rfl, hm'⟩ := snoc_len hm
    have h1 := allD_snoc dl
    have h2 := allD_snoc dm
    have b1 := isD_bd h1.2
    have b2 := isD_bd h2.2
    rw [dv_snoc, dv_snoc] at h
    have e1 : dv l = dv m := by omega
    have e2 : c = e := UInt8.toNat_inj.1 (by omega)
    rw [ih l m hl' hm' h1.1 h2.1 e1, e2]
theorem dv_rest (l : List UInt8) : restN 0 (digs l) = dv l % 97 := by
  induction l using list_snoc_ind with
  | h0 => rfl
  | h1 l c ih =>
    rw [digs_append, show digs [c] = [c.toNat - 48] from rfl, rest_snoc, ih, dv_snoc]
    omega
theorem dv_zeros (k : Nat) (l : List UInt8) : dv (List.replicate k 48 ++ l) = dv l := by
  have h : (List.replicate k (48 : UInt8)).foldl (fun n c => n * 10 + (c.toNat - 48)) 0 = 0 := by
    induction k with
    | zero => rfl
    | succ k ih => rw [List.replicate_succ]; exact ih
  unfold dv
  rw [List.foldl_append, h]

def byt (z : Int) : UInt8 := UInt8.ofNat z.toNat
theorem byt_val {z : Int} (h0 : 48 ≤ z) (h1 : z ≤ 57) : (byt z).toNat = z.toNat := by
  unfold byt; simp only [UInt8.toNat_ofNat']; omega
theorem dv_dec (u : Nat) : dv ((decL u).map byt) = u := by
  induction u using Nat.strongRecOn with
  | _ u ih =>
    by_cases h : u < 10
    · rw [decL_one h]
      show 0 * 10 + ((byt (48 + (u : Int))).toNat - 48) = u
      rw [byt_val (by omega) (by omega)]; omega
    · rw [decL_more h, List.map_append]
      show dv (_ ++ [byt (48 + ((u % 10 : Nat) : Int))]) = u
      rw [dv_snoc, ih (u / 10) (by omega), byt_val (by omega) (by omega)]; omega
theorem allD_dec (u : Nat) : allD ((decL u).map byt) = true := by
  unfold allD
  rw [List.all_eq_true]
  intro c hc
  obtain ⟨z, hz, rfl⟩ := List.mem_map.1 hc
  have := decL_dig u z hz
  exact isD_yes (by rw [byt_val this.1 this.2]; omega) (by rw [byt_val this.1 this.2]; omega)
/-- Twenty digits, with noughts ahead. -/
def fmtL (V : Nat) : List UInt8 := List.replicate (20 - (decL V).length) 48 ++ (decL V).map byt
def fmtB (V : Nat) : ByteArray := ⟨(fmtL V).toArray⟩
theorem fmtB_list (V : Nat) : (fmtB V).data.toList = fmtL V := by simp [fmtB]
theorem dec_len20 {V : Nat} (h : V < 100000000000000000000) : 1 ≤ (decL V).length ∧ (decL V).length ≤ 20 := decL_len 19 V (by omega)
theorem fmt_len {V : Nat} (h : V < 100000000000000000000) : (fmtL V).length = 20 := by
  have := dec_len20 h
  unfold fmtL; simp; omega
theorem fmtB_size {V : Nat} (h : V < 100000000000000000000) : (fmtB V).size = 20 := by
  rw [← len_eq, fmtB_list]; exact fmt_len h
theorem fmt_D (V : Nat) : allD (fmtL V) = true := by
  unfold fmtL
  rw [allD_append, allD_dec, Bool.and_true]
  unfold allD
  rw [List.all_eq_true]
  intro c hc
  rw [List.eq_of_mem_replicate hc]; rfl
theorem fmt_dv (V : Nat) : dv (fmtL V) = V := by unfold fmtL; rw [dv_zeros, dv_dec]
theorem fmt_inj {V W : Nat} (h : fmtL V = fmtL W) : V = W := by rw [← fmt_dv V, ← fmt_dv W, h]
theorem fmt_back {l : List UInt8} (h : l.length = 20) (hd : allD l = true) : fmtL (dv l) = l := by
  have hl := dv_lt l hd
  rw [h] at hl
  exact dv_inj 20 _ _ (fmt_len (by omega)) h (fmt_D _) hd (fmt_dv _)

/-- What Parse answers (P4.5). -/
def parseE (l : List UInt8) : Int :=
  if l.length ≠ 20 then 6 else if allD l = false then 7 else if 73786976294838206464 ≤ dv l then 2 else if dv l % 97 ≠ 0 then 8 else if okB (tokOf (dv l / 97)) then 0 else 2
def parseV (l : List UInt8) : Value := if parseE l = 0 then (tokOf (dv l / 97)).v else noTok

theorem parse_len {l : List UInt8} (h : l.length ≠ 20) : parseE l = 6 ∧ parseV l = noTok := by
  have e : parseE l = 6 := by unfold parseE; rw [if_pos h]
  exact ⟨e, by unfold parseV; rw [e]; rfl⟩
theorem parse_dig {l : List UInt8} (h : l.length = 20) (h1 : allD l = false) : parseE l = 7 ∧ parseV l = noTok := by
  have e : parseE l = 7 := by unfold parseE; rw [if_neg (by omega), if_pos h1]
  exact ⟨e, by unfold parseV; rw [e]; rfl⟩
theorem parse_big {l : List UInt8} (h : l.length = 20) (h1 : allD l = true) (h2 : 73786976294838206464 ≤ dv l) : parseE l = 2 ∧ parseV l = noTok := by
  have e : parseE l = 2 := by unfold parseE; rw [if_neg (by omega), if_neg (by simp [h1]), if_pos h2]
  exact ⟨e, by unfold parseV; rw [e]; rfl⟩
theorem parse_chk {l : List UInt8} (h : l.length = 20) (h1 : allD l = true) (h2 : dv l < 73786976294838206464) (h3 : dv l % 97 ≠ 0) : parseE l = 8 ∧ parseV l = noTok := by
  have e : parseE l = 8 := by unfold parseE; rw [if_neg (by omega), if_neg (by simp [h1]), if_neg (by omega), if_pos h3]
  exact ⟨e, by unfold parseV; rw [e]; rfl⟩
theorem parse_no {l : List UInt8} (h : l.length = 20) (h1 : allD l = true) (h2 : dv l < 73786976294838206464) (h3 : dv l % 97 = 0) (h4 : okB (tokOf (dv l / 97)) = false) : parseE l = 2 ∧ parseV l = noTok := by
  have e : parseE l = 2 := by unfold parseE; rw [if_neg (by omega), if_neg (by simp [h1]), if_neg (by omega), if_neg (by omega), if_neg (by simp [h4])]
  exact ⟨e, by unfold parseV; rw [e]; rfl⟩
theorem parse_ok {l : List UInt8} (h : l.length = 20) (h1 : allD l = true) (h2 : dv l < 73786976294838206464) (h3 : dv l % 97 = 0) (h4 : okB (tokOf (dv l / 97)) = true) : parseE l = 0 ∧ parseV l = (tokOf (dv l / 97)).v := by
  have e : parseE l = 0 := by unfold parseE; rw [if_neg (by omega), if_neg (by simp [h1]), if_neg (by omega), if_neg (by omega), if_pos h4]
  exact ⟨e, by unfold parseV; rw [if_pos e]⟩
/-- What was formatted is parsed as it was. -/
theorem parse_fmt {k : Tok} (h : k.ok) : parseE (fmtL (97 * k.num)) = 0 ∧ parseV (fmtL (97 * k.num)) = k.v := by
  have hb := num_bd h
  have e : 97 * k.num / 97 = k.num := by omega
  have := parse_ok (fmt_len (V := 97 * k.num) (by omega)) (fmt_D _) (by rw [fmt_dv]; exact hb) (by rw [fmt_dv]; omega) (by rw [fmt_dv, e, tokOf_num h]; exact okB_ok.2 h)
  rwa [fmt_dv, e, tokOf_num h] at this
/-- What is parsed is formatted as it was. -/
theorem fmt_parse {l : List UInt8} (h : parseE l = 0) : ∃ k : Tok, k.ok ∧ parseV l = k.v ∧ fmtL (97 * k.num) = l := by
  by_cases h0 : l.length = 20
  · cases h1 : allD l with
    | false => rw [(parse_dig h0 h1).1] at h; cases h
    | true =>
      by_cases h2 : dv l < 73786976294838206464
      · by_cases h3 : dv l % 97 = 0
        · cases h4 : okB (tokOf (dv l / 97)) with
          | false => rw [(parse_no h0 h1 h2 h3 h4).1] at h; cases h
          | true =>
            refine ⟨_, okB_ok.1 h4, (parse_ok h0 h1 h2 h3 h4).2, ?_⟩
            rw [num_tokOf (by omega), show 97 * (dv l / 97) = dv l by omega]
            exact fmt_back h0 h1
        · rw [(parse_chk h0 h1 h2 h3).1] at h; cases h
      · rw [(parse_big h0 h1 (by omega)).1] at h; cases h
  · rw [(parse_len h0).1] at h; cases h
theorem parse_else {l : List UInt8} (h : parseE l ≠ 0) : parseV l = noTok := by unfold parseV; rw [if_neg h]
/-- Twenty digits whose number is no multiple of 97 make no token. -/
theorem parse_bad {l : List UInt8} (h : l.length = 20) (h1 : allD l = true) (h3 : dv l % 97 ≠ 0) : parseE l = 8 ∨ parseE l = 2 := by
  by_cases h2 : dv l < 73786976294838206464
  · exact .inl (parse_chk h h1 h2 h3).1
  · exact .inr (parse_big h h1 (by omega)).1
theorem fmt_rest {k : Tok} : restN 0 (digs (fmtL (97 * k.num))) = 0 := by rw [dv_rest, fmt_dv]; omega
theorem bad_rest {l : List UInt8} (h : l.length = 20) (h1 : allD l = true) (h3 : restN 0 (digs l) ≠ 0) : parseE l = 8 ∨ parseE l = 2 := parse_bad h h1 (by rwa [← dv_rest])

/-- Of words that are put and cut: numbers. -/
def bigV (a b c : Nat) : Nat := a + b * 4294967296 + c * 18446744073709551616
theorem bigV_bit {a b c : Nat} (ha : a < 2 ^ 32) (hb : b < 2 ^ 32) (m : Nat) : (bigV a b c).testBit m = bit3 a b c m := by
  have e : bigV a b c = 2 ^ 32 * (2 ^ 32 * c + b) + a := by unfold bigV; omega
  rw [e, Nat.testBit_two_pow_mul_add _ ha, Nat.testBit_two_pow_mul_add _ hb]
  unfold bit3
  by_cases h1 : m < 32
  · rw [if_pos h1, if_pos h1]
  · rw [if_neg h1, if_neg h1]
    by_cases h2 : m < 64
    · rw [if_pos h2, if_pos (by omega)]
    · rw [if_neg h2, if_neg (by omega)]
      congr 1
theorem bits_num {a b c lo n : Nat} (ha : a < 2 ^ 32) (hb : b < 2 ^ 32) (hc : c < 2 ^ 32) (hn : n ≤ 64) : bitsN a b c lo n = bigV a b c / 2 ^ lo % 2 ^ n := by
  apply Nat.eq_of_testBit_eq
  intro j
  rw [bits_bit ha hb hc hn, Nat.testBit_mod_two_pow, Nat.testBit_div_two_pow, bigV_bit ha hb, Nat.add_comm]
theorem bigV_top {a b c : Nat} (ha : a < 2 ^ 32) (hb : b < 2 ^ 32) (hc : c < 2 ^ 32) : bigV a b c < 2 ^ 96 := by
  unfold bigV
  omega
/-- What is put into a field of noughts is added. -/
theorem put_num {a b c v lo n : Nat} (ha : a < 2 ^ 32) (hb : b < 2 ^ 32) (hc : c < 2 ^ 32) (hv : v < 2 ^ n) (hn : n ≤ 64) (hl : lo + n ≤ 96) (h0 : bigV a b c / 2 ^ lo % 2 ^ n = 0) :
    bigV (putN a v n lo) (putN b v n ((lo : Int) - 32)) (putN c v n ((lo : Int) - 64)) = bigV a b c + v * 2 ^ lo := by
  have pa := put_lt a v n lo ha
  have pb := put_lt b v n ((lo : Int) - 32) hb
  have pc := put_lt c v n ((lo : Int) - 64) hc
  have hbit : ∀ m, m < 96 → (bigV (putN a v n lo) (putN b v n ((lo : Int) - 32)) (putN c v n ((lo : Int) - 64))).testBit m = if lo ≤ m ∧ m < lo + n then v.testBit (m - lo) else (bigV a b c).testBit m := fun m hm => by
    rw [bigV_bit pa pb, put_bits hv m hm, bigV_bit ha hb]
  have hfv : bigV (putN a v n lo) (putN b v n ((lo : Int) - 32)) (putN c v n ((lo : Int) - 64)) / 2 ^ lo % 2 ^ n = v := by
    rw [← bits_num pa pb pc hn, bits_put ha hb hc hv hn hl]
  have hVt := bigV_top ha hb hc
  have hWt := bigV_top pa pb pc
  generalize bigV (putN a v n lo) (putN b v n ((lo : Int) - 32)) (putN c v n ((lo : Int) - 64)) = W at *
  generalize bigV a b c = V at *
  have hlow : W % 2 ^ lo = V % 2 ^ lo := by
    apply Nat.eq_of_testBit_eq
    intro j
    rw [Nat.testBit_mod_two_pow, Nat.testBit_mod_two_pow]
    by_cases hj : j < lo
    · rw [hbit j (by omega), if_neg (by omega)]
    · rw [decide_eq_false hj, Bool.false_and, Bool.false_and]
  have hhigh : W / 2 ^ lo / 2 ^ n = V / 2 ^ lo / 2 ^ n := by
    rw [Nat.div_div_eq_div_mul, Nat.div_div_eq_div_mul, ← Nat.pow_add]
    apply Nat.eq_of_testBit_eq
    intro j
    rw [Nat.testBit_div_two_pow, Nat.testBit_div_two_pow]
    by_cases hj : lo + n + j < 96
    · rw [Nat.add_comm j, hbit _ hj, if_neg (by omega)]
    · rw [bit_hi hVt (by omega), bit_hi hWt (by omega)]
  have eV := Nat.div_add_mod V (2 ^ lo)
  have eW := Nat.div_add_mod W (2 ^ lo)
  have eV2 := Nat.div_add_mod (V / 2 ^ lo) (2 ^ n)
  have eW2 := Nat.div_add_mod (W / 2 ^ lo) (2 ^ n)
  rw [hhigh, hfv] at eW2
  rw [hlow] at eW
  rw [h0] at eV2
  generalize V / 2 ^ lo / 2 ^ n = H at *
  generalize V % 2 ^ lo = L at *
  rw [← eV2, Nat.mul_add] at eV
  rw [← eW2, Nat.mul_add] at eW
  rw [Nat.mul_comm v]
  generalize 2 ^ lo * (2 ^ n * H) = p at *
  generalize 2 ^ lo * v = r at *
  omega

end Go.Proofs.YtnhidiefchamlaaDoor.token
