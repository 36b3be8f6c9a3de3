/- keyholdref.Dec, walked: a number's digits. -/
import Derived.Test.YtfpkbfhaipgibaaDoorChecked
import Derived.Test.YtfpkbfhaipgibaaDoorMem
import Derived.Lib.ItoaNum
import Derived.Laws.BytesString
import Derived.Laws.BytesArg
import Derived.Laws.IdiomStrings
namespace Go.Proofs.YtfpkbfhaipgibaaDoor.Txt
open Go.RowKit Go.Proofs.YtfpkbfhaipgibaaDoor.Mem

theorem ret_str {a b : ByteArray} (h : a = b) : Ending.returned (.string a) = .returned (.string b) := by rw [h]
/-- One byte, made a slice, made a text. -/
theorem byte_str (w : World) (d : Int) :
    (convert 129 9 (.slice (some ⟨w.heap.size, 0, none⟩) 1 1)).run Tryd.prog (w.alloc (.cells #[.int .u8 d] 5)) = .ok (.string (strOfNums [d])) (w.alloc (.cells #[.int .u8 d] 5)) :=
  run_convert_bytes_arg (P := Tryd.prog) (w.alloc (.cells #[.int .u8 d] 5)) 129 5 Tryd.underlying129 Tryd.underlying5 w.heap.size 0 1 1 [d] rfl (by
    intro i hi
    obtain rfl : i = 0 := by omega
    simp) 9 Tryd.underlying9
theorem str1 (d : Nat) : strOfNums [48 + (d : Int)] = ⟨#[UInt8.ofNat (48 + d)]⟩ := by
  have : (48 + (d : Int)).toNat = 48 + d := by omega
  simp [strOfNums, this]
theorem digits_len : ∀ (m u : Nat), u = m → (Lib.decDigits u).length ≤ u + 1 := by
  intro m
  induction m using Nat.strongRecOn with
  | _ m ih =>
    intro u hu
    rw [Lib.decDigits]
    split
    · simp
    · have := ih (u / 10) (by omega) (u / 10) rfl
      simp
      omega
theorem itoa_size {n : Int} (h0 : -1000000 ≤ n) (h1 : n ≤ 1000000) : (⟨(Lib.itoa n).toArray⟩ : ByteArray).size ≤ 1000002 := by
  have e : (⟨(Lib.itoa n).toArray⟩ : ByteArray).size = (Lib.itoa n).length := by simp [ByteArray.size]
  rw [e]
  unfold Lib.itoa
  split
  · have := digits_len _ n.natAbs rfl; simp; omega
  · have := digits_len _ n.toNat rfl; omega
theorem itoa_len {n : Int} (h0 : -1000000 ≤ n) (h1 : n ≤ 1000000) : (Lib.itoa n).length ≤ 1000002 := by
  have := itoa_size h0 h1
  simpa [ByteArray.size] using this
theorem one_size (d : Int) : (strOfNums [d]).size = 1 := strOfNums_size [d]
theorem itoa_small {n : Int} (h0 : 0 ≤ n) (h1 : n < 10) : (⟨(Lib.itoa n).toArray⟩ : ByteArray) = strOfNums [48 + n % 10] := by
  obtain ⟨k, rfl⟩ := Int.eq_ofNat_of_zero_le h0
  have e : Lib.itoa (k : Int) = [UInt8.ofNat (48 + k)] := by
    unfold Lib.itoa
    rw [if_neg (by omega), Int.toNat_natCast, Lib.decDigits, dif_pos (by omega)]
  have e2 : (k : Int) % 10 = (k : Int) := by omega
  rw [e, e2, str1]
theorem itoa_big {n : Int} (h0 : 10 ≤ n) : (⟨(Lib.itoa n).toArray⟩ : ByteArray) = ⟨(Lib.itoa (n / 10)).toArray⟩ ++ strOfNums [48 + n % 10] := by
  obtain ⟨k, rfl⟩ := Int.eq_ofNat_of_zero_le (show 0 ≤ n by omega)
  have e : Lib.itoa (k : Int) = Lib.decDigits (k / 10) ++ [UInt8.ofNat (48 + k % 10)] := by
    unfold Lib.itoa
    rw [if_neg (by omega), Int.toNat_natCast, Lib.decDigits, dif_neg (by omega)]
  have e1 : Lib.itoa ((k : Int) / 10) = Lib.decDigits (k / 10) := by
    unfold Lib.itoa
    rw [if_neg (by omega)]
    congr 1
  have e2 : (k : Int) % 10 = ((k % 10 : Nat) : Int) := by omega
  rw [e, e1, e2, str1]
  apply ByteArray.ext
  simp [ByteArray.data_append]
theorem itoa_neg {n : Int} (h0 : n < 0) (h1 : -10 < n) : (⟨(Lib.itoa n).toArray⟩ : ByteArray) = ⟨#[45]⟩ ++ strOfNums [48 + (-n) % 10] := by
  obtain ⟨k, hk⟩ := Int.eq_ofNat_of_zero_le (show 0 ≤ -n by omega)
  have e : Lib.itoa n = 45 :: [UInt8.ofNat (48 + k)] := by
    unfold Lib.itoa
    rw [if_pos h0, show n.natAbs = k by omega, Lib.decDigits, dif_pos (by omega)]
  have e2 : (-n) % 10 = (k : Int) := by omega
  rw [e, e2, str1]
  apply ByteArray.ext
  simp [ByteArray.data_append]
theorem itoa_negbig {n : Int} (h0 : n ≤ -10) : (⟨(Lib.itoa n).toArray⟩ : ByteArray) = ⟨(Lib.itoa (-((-n) / 10))).toArray⟩ ++ strOfNums [48 + (-n) % 10] := by
  obtain ⟨k, hk⟩ := Int.eq_ofNat_of_zero_le (show 0 ≤ -n by omega)
  have e : Lib.itoa n = 45 :: (Lib.decDigits (k / 10) ++ [UInt8.ofNat (48 + k % 10)]) := by
    unfold Lib.itoa
    rw [if_pos (by omega), show n.natAbs = k by omega, Lib.decDigits, dif_neg (by omega)]
  have e1 : Lib.itoa (-((-n) / 10)) = 45 :: Lib.decDigits (k / 10) := by
    unfold Lib.itoa
    rw [if_pos (by omega), show (-((-n) / 10)).natAbs = k / 10 by omega]
  have e2 : (-n) % 10 = ((k % 10 : Nat) : Int) := by omega
  rw [e, e1, e2, str1]
  apply ByteArray.ext
  simp [ByteArray.data_append]
theorem tmod10 {n : Int} (h : n < 0) : n.tmod 10 = -((-n) % 10) := by
  have e : n.tmod 10 = -((-n).tmod 10) := by rw [Int.neg_tmod, Int.neg_neg]
  rw [e, Int.tmod_eq_emod_of_nonneg (by omega)]
theorem tdiv10 {n : Int} (h : n < 0) : n.tdiv 10 = -((-n) / 10) := by
  have e : n.tdiv 10 = -((-n).tdiv 10) := by rw [Int.neg_tdiv, Int.neg_neg]
  rw [e, Int.tdiv_eq_ediv_of_nonneg (by omega)]
end Go.Proofs.YtfpkbfhaipgibaaDoor.Txt
