/- The document's twenty digits of a token. -/
import Derived.Test.YtmpjmcfgikmgnaaDoorTkNum
import Derived.Test.YtmpjmcfgikmgnaaDoorTkForm
import Derived.Test.YtmpjmcfgikmgnaaDoorBigM2
namespace Go.Proofs.YtmpjmcfgikmgnaaDoor.token
open Go.Proofs.YtmpjmcfgikmgnaaDoor.words
open Go.RowKit
set_option maxRecDepth 100000
set_option linter.unusedSimpArgs false
set_option linter.unusedVariables false

theorem zero_cat (n : Nat) (D : ByteArray) : (⟨#[48]⟩ : ByteArray) ++ ((⟨(List.replicate n 48).toArray⟩ : ByteArray) ++ D) = (⟨(List.replicate (n + 1) 48).toArray⟩ : ByteArray) ++ D := by
  apply bytes_ext
  simp [List.replicate_succ]
theorem zero_size (n : Nat) (D : ByteArray) : ((⟨(List.replicate n 48).toArray⟩ : ByteArray) ++ D).size = n + D.size := by
  rw [ByteArray.size_append]
  congr 1
  show (List.replicate n (48 : UInt8)).toArray.size = n
  simp
theorem zero_nil (D : ByteArray) : (⟨(List.replicate 0 48).toArray⟩ : ByteArray) ++ D = D := by
  apply bytes_ext
  simp

set_option maxHeartbeats 400000 in
theorem formatted_no (c i a t : Int) (w : World) (h : flawT c i a t ≠ 0) :
    Calls Tryd.prog 14 #[.agg #[.int .i64 c, .int .i64 i, .int .i64 a, .int .i64 t]] w fun e w' => e = .returned (.tuple #[.string ByteArray.empty, .int .i64 (flawT c i a t)]) ∧ Below w.heap.size w w' := by
  have HF : Hid (∀ W, Calls Tryd.prog 21 #[.agg #[.int .i64 c, .int .i64 i, .int .i64 a, .int .i64 t]] W fun e w' => e = .returned (.int .i64 (flawT c i a t)) ∧ Below W.heap.size W w') := fun W => fault_any c i a t W
  have hd : (flawT c i a t != 0) = true := by simpa using h
  have HB : Hid (Below w.heap.size w (w.alloc (.cells #[.int .i64 c, .int .i64 i, .int .i64 a, .int .i64 t] 23))) := bel_box _ _
  clear h
  generalize flawT c i a t = f at *
  go_enter Tryd.func14, Tryd.ntmps14
  go_wp2_with fail
  refine (HF.out _).mono ?_
  rintro e w1 ⟨rfl, hb1⟩
  have HB1 : Hid (Below w.heap.size w w1) := bel_step HB.out hb1
  clear hb1 HF HB
  go_wp2_with fail
  refine bodyPost_ret (v := .tuple #[.string ByteArray.empty, .int .i64 f]) (by simp [results, Tryd.results14, go_sem]; rfl) rfl ⟨rfl, HB1.out⟩

set_option maxHeartbeats 1000000 in
theorem formatted_ok (k : Tok) (w : World) (hk : k.ok) :
    Calls Tryd.prog 14 #[k.v] w fun e w' => e = .returned (.tuple #[.string (fmtB (97 * k.num)), .int .i64 0]) ∧ Below w.heap.size w w' := by
  have HF : Hid (∀ W, Calls Tryd.prog 21 #[.agg #[.int .i64 (k.c : Int), .int .i64 (k.i : Int), .int .i64 (k.a : Int), .int .i64 (k.t : Int)]] W fun e w' => e = .returned (.int .i64 0) ∧ Below W.heap.size W w') := fun W => by
    have := fault_any k.c k.i k.a k.t W
    rwa [flaw_tok.2 hk] at this
  have HP : Hid (∀ W, Calls Tryd.prog 24 #[.agg #[.int .i64 (k.c : Int), .int .i64 (k.i : Int), .int .i64 (k.a : Int), .int .i64 (k.t : Int)]] W fun e w' => NewPost W (k.num * 97) e w') := fun W => number_any k W hk
  have hnb := num_bd hk
  have hln := dec_len20 (V := k.num * 97) (by omega)
  have hsz := str_size (decL (k.num * 97))
  have HS : Hid (∀ (n : Nat) W, Bg W n (k.num * 97) → Calls Tryd.prog 27 #[.pointer (some ⟨n, 0, none⟩)] W fun e w' => e = .returned (.string (strOf (decL (k.num * 97)))) ∧ Below W.heap.size W w') := fun n W hW => string_any n _ W hW (len100 (Nat.lt_trans (show k.num * 97 < 73786976294838206464 by omega) (by decide))) (by omega)
  have HX : Hid (∀ n : Nat, n + (strOf (decL (k.num * 97))).size = 20 → (⟨(List.replicate n 48).toArray⟩ : ByteArray) ++ strOf (decL (k.num * 97)) = fmtB (97 * k.num)) := fun n hn => by
    rw [← rep_list, pad_fmt _ _ (by rw [← hsz]; exact hn), Nat.mul_comm]
  have HB : Hid (Below w.heap.size w (w.alloc (.cells #[.int .i64 (k.c : Int), .int .i64 (k.i : Int), .int .i64 (k.a : Int), .int .i64 (k.t : Int)] 23))) := bel_box _ _
  have HK : Hid (Blk (w.alloc (.cells #[.int .i64 (k.c : Int), .int .i64 (k.i : Int), .int .i64 (k.a : Int), .int .i64 (k.t : Int)] 23)) w.heap.size #[.int .i64 (k.c : Int), .int .i64 (k.i : Int), .int .i64 (k.a : Int), .int .i64 (k.t : Int)] 23) := Blk.new _ _ _
  rw [← hsz] at hln
  clear hk hnb hsz
  generalize strOf (decL (k.num * 97)) = D at *
  unfold Tok.v
  go_enter Tryd.func14, Tryd.ntmps14
  go_wp2_with fail
  refine (HF.out _).mono ?_
  rintro e w1 ⟨rfl, hb1⟩
  have HB1 : Hid (Below w.heap.size w w1) := bel_step HB.out hb1
  have hK := HK.out.next hb1
  have c0 := hK.cell 0
  have c1 := hK.cell 1
  have c2 := hK.cell 2
  have c3 := hK.cell 3
  clear hb1 HF HB HK hK
  go_wp2_with fail
  refine (HP.out _).mono ?_
  rintro e w2 ⟨z, rfl, hz, hg2, hb2⟩
  have HB2 : Hid (Below w.heap.size w w2) := bel_step HB1.out hb2
  have HG : Hid (Bg w2 z (k.num * 97)) := hg2
  clear hb2 hg2 hz HP HB1 c0 c1 c2 c3
  go_wp2_with fail
  refine (HS.out _ _ HG.out).mono ?_
  rintro e w3 ⟨rfl, hb3⟩
  have HB3 : Hid (Below w.heap.size w w3) := bel_step HB2.out hb3
  clear hb3 HB2 HG HS
  go_wp2_with fail
  go_loop [5] (fun v => ∃ n : Nat, n + D.size ≤ 20 ∧ v = .string ((⟨(List.replicate n 48).toArray⟩ : ByteArray) ++ D)) (fun v => 20 - (match v with | .string s => s.size | _ => 0))
  case atStart => exact ⟨0, by omega, by rw [zero_nil]⟩
  case round =>
    obtain ⟨n, hn, rfl⟩ := hrel
    have hs := zero_size n D
    have HC : Hid ((⟨#[48]⟩ : ByteArray) ++ ((⟨(List.replicate n 48).toArray⟩ : ByteArray) ++ D) = (⟨(List.replicate (n + 1) 48).toArray⟩ : ByteArray) ++ D) := zero_cat n D
    have HN : Hid (n + D.size = 20 → (⟨(List.replicate n 48).toArray⟩ : ByteArray) ++ D = fmtB (97 * k.num)) := HX.out n
    have HS1 : Hid (((⟨(List.replicate (n + 1) 48).toArray⟩ : ByteArray) ++ D).size = n + 1 + D.size) := zero_size (n + 1) D
    by_cases hlt : n + D.size < 20
    · generalize (⟨(List.replicate n 48).toArray⟩ : ByteArray) ++ D = Z at *
      have hzs : (Z.size : Int) < 20 := by omega
      have hzm : ¬ 9223372036854775807 < 1 + Z.size := by omega
      have HH : Hid (n + 1 + D.size ≤ 20) := (by omega : n + 1 + D.size ≤ 20)
      have HSZ : Hid (Z.size = n + D.size) := hs
      clear hs hn hln
      go_wp2_with fail
      go_round
      case rel => exact ⟨n + 1, HH.out, by rw [← HC.out]⟩
      case measure =>
        show 20 - ((⟨#[48]⟩ : ByteArray) ++ Z).size < 20 - Z.size
        rw [HC.out, HS1.out, HSZ.out]; omega
    · have he := HN.out (by omega)
      have HE : Hid ((⟨(List.replicate n 48).toArray⟩ : ByteArray) ++ D = fmtB (97 * k.num)) := he
      clear he
      generalize (⟨(List.replicate n 48).toArray⟩ : ByteArray) ++ D = Z at *
      have hzs : ¬ (Z.size : Int) < 20 := by omega
      clear hs hlt hn HC HS1 HN HX hln
      go_wp2_with fail
      refine bodyPost_ret (v := .tuple #[.string Z, .int .i64 0]) (by simp [results, Tryd.results14, go_sem]) rfl ⟨by rw [HE.out], HB3.out⟩

end Go.Proofs.YtmpjmcfgikmgnaaDoor.token
