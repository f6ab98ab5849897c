/- What Format gives back. -/
import Derived.Test.YtmpjmcfgikmgnabDoorTkBody
import Derived.Test.YtmpjmcfgikmgnabDoorTkRep
import Derived.Test.YtmpjmcfgikmgnabDoorWShow
import Derived.Lib.Strings
namespace Go.Proofs.YtmpjmcfgikmgnabDoor.token
open Go.Proofs.YtmpjmcfgikmgnabDoor.words
open Go.RowKit
set_option linter.unusedSimpArgs false

theorem str_list (ns : List Int) : (strOf ns).data.toList = ns.map byt := by
  have h : ∀ (ns : List Int) (r : ByteArray), (ns.foldl (fun r n => r.push (UInt8.ofNat n.toNat)) r).data.toList = r.data.toList ++ ns.map byt := by
    intro ns
    induction ns with
    | nil => intro r; simp
    | cons x l ih => intro r; rw [List.foldl_cons, ih]; simp [ByteArray.push, byt]
  have := h ns ByteArray.empty
  simpa [strOf] using this
theorem str_size (ns : List Int) : (strOf ns).size = ns.length := by
  rw [← check.len_eq, str_list]; simp
theorem rep_list (n : Nat) : Lib.repeatL [48] n = List.replicate n 48 := by
  induction n with
  | zero => rfl
  | succ n ih => rw [Lib.repeatL, ih]; rfl
theorem bytes_ext {a b : ByteArray} (h : a.data.toList = b.data.toList) : a = b := by
  cases a; cases b; congr 1; exact Array.toList_inj.1 h
/-- Noughts ahead of a number's digits. -/
theorem pad_fmt (V n : Nat) (h : n + (decL V).length = 20) : (⟨(Lib.repeatL [48] n).toArray⟩ : ByteArray) ++ strOf (decL V) = fmtB V := by
  apply bytes_ext
  rw [fmtB_list, show ((⟨(Lib.repeatL [48] n).toArray⟩ : ByteArray) ++ strOf (decL V)).data.toList = Lib.repeatL [48] n ++ (strOf (decL V)).data.toList by simp, str_list, rep_list]
  unfold fmtL
  rw [show 20 - (decL V).length = n by omega]

theorem show_wn (a b c V : Nat) (w : World) (h : WN a b c V) :
    Calls Tryd.prog 15 #[.agg #[.int .u32 (a : Int), .int .u32 (b : Int), .int .u32 (c : Int)]] w fun e w' => e = .returned (.string (strOf (decL V))) ∧ Below w.heap.size w w' := by
  have hk := wn_ok h
  have := show_any ⟨a, b, c⟩ w hk.1
  rwa [hk.2, Int.toNat_natCast] at this

set_option maxHeartbeats 400000 in
theorem format_no (c i a t : Int) (w : World) (ht : TTab w) (h : flawT c i a t ≠ 0) :
    Calls Tryd.prog 7 #[.agg #[.int .i64 c, .int .i64 i, .int .i64 a, .int .i64 t]] w fun e w' => e = .returned (.tuple #[.string ByteArray.empty, .int .i64 (flawT c i a t)]) ∧ Below w.heap.size w w' := by
  have HF : Hid (∀ W, TTab W → Calls Tryd.prog 14 #[.agg #[.int .i64 c, .int .i64 i, .int .i64 a, .int .i64 t]] W fun e w' => e = .returned (.tuple #[.agg #[.int .u32 0, .int .u32 0, .int .u32 0], .int .i64 (flawT c i a t)]) ∧ Below W.heap.size W w') := fun W hW => words_no c i a t W hW h
  have hd : (flawT c i a t != 0) = true := by simpa using h
  have HB : Hid (Below w.heap.size w (w.alloc (.cells #[.int .i64 c, .int .i64 i, .int .i64 a, .int .i64 t] 27))) := bel_box _ _
  have HT : Hid (TTab (w.alloc (.cells #[.int .i64 c, .int .i64 i, .int .i64 a, .int .i64 t] 27))) := ht.below (bel_box _ _)
  clear ht h
  generalize flawT c i a t = f at *
  go_enter Tryd.func7, Tryd.ntmps7
  go_wp2_with fail
  refine (HF.out _ HT.out).mono ?_
  rintro e w1 ⟨rfl, hb1⟩
  have HB1 : Hid (Below w.heap.size w (w1.alloc (.cells #[.int .u32 0, .int .u32 0, .int .u32 0] 39))) := (bel_step HB.out hb1).alloc (bel_step HB.out hb1).size _
  clear hb1 HF HB HT
  go_wp2_with fail
  refine bodyPost_ret (v := .tuple #[.string ByteArray.empty, .int .i64 f]) (by simp [results, Tryd.results7, go_sem]; rfl) rfl ⟨rfl, HB1.out⟩

set_option maxHeartbeats 400000 in
theorem format_ok (k : Tok) (w : World) (ht : TTab w) (hk : k.ok) :
    Calls Tryd.prog 7 #[k.v] w fun e w' => e = .returned (.tuple #[.string (fmtB (97 * k.num)), .int .i64 0]) ∧ Below w.heap.size w w' := by
  have HF : Hid (∀ W, TTab W → Calls Tryd.prog 14 #[.agg #[.int .i64 (k.c : Int), .int .i64 (k.i : Int), .int .i64 (k.a : Int), .int .i64 (k.t : Int)]] W fun e w' => WordsPost W k e w') := fun W hW => words_ok k W hW hk
  have hnb := num_bd hk
  have hln := dec_len20 (V := k.num * 97) (by omega)
  have hsz := str_size (decL (k.num * 97))
  have HSh : Hid (∀ (a b c : Nat) W, WN a b c (k.num * 97) → Calls Tryd.prog 15 #[.agg #[.int .u32 (a : Int), .int .u32 (b : Int), .int .u32 (c : Int)]] W fun e w' => e = .returned (.string (strOf (decL (k.num * 97)))) ∧ Below W.heap.size W w') := fun a b c W hW => show_wn a b c _ W hW
  obtain ⟨n, hn⟩ : ∃ n : Nat, n + (decL (k.num * 97)).length = 20 := ⟨20 - (decL (k.num * 97)).length, by omega⟩
  have HRp : Hid (∀ W, Calls Tryd.prog 16 #[.string ⟨#[48]⟩, .int .i64 (n : Int)] W fun e w' => e = .returned (.string ⟨(Lib.repeatL [48] n).toArray⟩) ∧ Below W.heap.size W w') := fun W => Tryd.strings_Repeat ⟨#[48]⟩ n W (by omega) (by show 1 * n ≤ _; omega)
  have HX : Hid ((⟨(Lib.repeatL [48] n).toArray⟩ : ByteArray) ++ strOf (decL (k.num * 97)) = fmtB (97 * k.num)) := by
    show _ = _
    rw [pad_fmt _ _ hn, Nat.mul_comm]
  have hzz : (⟨(Lib.repeatL [48] n).toArray⟩ : ByteArray).size = n := by
    show (Lib.repeatL [48] n).toArray.size = n
    rw [rep_list]; simp
  have HT : Hid (TTab (w.alloc (.cells #[.int .i64 (k.c : Int), .int .i64 (k.i : Int), .int .i64 (k.a : Int), .int .i64 (k.t : Int)] 27))) := ht.below (bel_box _ _)
  have HB : Hid (Below w.heap.size w (w.alloc (.cells #[.int .i64 (k.c : Int), .int .i64 (k.i : Int), .int .i64 (k.a : Int), .int .i64 (k.t : Int)] 27))) := bel_box _ _
  rw [← hsz] at hn hln
  clear ht hk hnb hsz
  generalize strOf (decL (k.num * 97)) = D at *
  generalize (⟨(Lib.repeatL [48] n).toArray⟩ : ByteArray) = Z at *
  have hds : (20 : Int) - (D.size : Int) = (n : Int) := by omega
  unfold Tok.v
  go_enter Tryd.func7, Tryd.ntmps7
  go_wp2_with fail
  refine (HF.out _ HT.out).mono ?_
  rintro e w1 ⟨a, b, c, rfl, hwn, hb1⟩
  have hN := Blk.new w1 #[.int .u32 (a : Int), .int .u32 (b : Int), .int .u32 (c : Int)] 39
  have HB1 : Hid (Below w.heap.size w (w1.alloc (.cells #[.int .u32 (a : Int), .int .u32 (b : Int), .int .u32 (c : Int)] 39))) := (bel_step HB.out hb1).alloc (bel_step HB.out hb1).size _
  have HW : Hid (WN a b c (k.num * 97)) := hwn
  have c0 := hN.cell 0
  have c1 := hN.cell 1
  have c2 := hN.cell 2
  clear hb1 HF HB HT hwn hN
  go_wp2_with fail
  refine (HSh.out _ _ _ _ HW.out).mono ?_
  rintro e w2 ⟨rfl, hb2⟩
  have HB2 : Hid (Below w.heap.size w w2) := bel_step HB1.out hb2
  clear hb2 HSh HB1 HW c0 c1 c2
  go_wp2_with fail
  refine (HRp.out _).mono ?_
  rintro e w3 ⟨rfl, hb3⟩
  have HB3 : Hid (Below w.heap.size w w3) := bel_step HB2.out hb3
  clear hb3 HRp HB2
  go_wp2_with fail
  refine bodyPost_ret (v := .tuple #[.string (Z ++ D), .int .i64 0]) (by simp [results, Tryd.results7, go_sem]) rfl ⟨by rw [HX.out], HB3.out⟩

end Go.Proofs.YtmpjmcfgikmgnabDoor.token
