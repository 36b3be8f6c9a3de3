/- Words and their bits: what '&', '|' and '^' are at numbers below 65536, in plain numbers. -/
import Derived.WalkKit
import Derived.Laws.BitsLemmas
namespace Go.Proofs.YtoebmjgkfkfhjaaGreatDoor.Bw
open Go.RowKit
theorem mask (n : Int) (i : Nat) (hi : i ≤ 62) : bits .and .i64 n ((2 ^ i - 1 : Nat) : Int) = n % ((2 ^ i : Nat) : Int) := by
 have hp : 2 ^ i ≤ 2 ^ 62 := Nat.pow_le_pow_right (by decide) hi
 have hq : 0 < 2 ^ i := Nat.two_pow_pos i
 have hm : (BitVec.ofInt 64 ((2 ^ i - 1 : Nat) : Int)).toNat = 2 ^ i - 1 := by
  rw [BitVec.ofInt_natCast, BitVec.toNat_ofNat]
  exact Nat.mod_eq_of_lt (by have : (2 : Nat) ^ 62 < 2 ^ 64 := (by decide); omega)
 have key : (BitVec.ofInt 64 n &&& BitVec.ofInt 64 ((2 ^ i - 1 : Nat) : Int)).toNat = (n % ((2 ^ 64 : Nat) : Int)).toNat % 2 ^ i := by
  rw [BitVec.toNat_and, BitVec.toNat_ofInt, hm, Nat.and_two_pow_sub_one_eq_mod]
 show IntKind.i64.wrap ((BitVec.ofInt 64 n &&& BitVec.ofInt 64 ((2 ^ i - 1 : Nat) : Int)).toNat : Nat) = n % ((2 ^ i : Nat) : Int)
 have hdvd : ((2 ^ i : Nat) : Int) ∣ ((2 ^ 64 : Nat) : Int) := by
  rw [Int.natCast_dvd_natCast]
  exact Nat.pow_dvd_pow 2 (by omega)
 have h3 : (((n % ((2 ^ 64 : Nat) : Int)).toNat % 2 ^ i : Nat) : Int) = n % ((2 ^ i : Nat) : Int) := by
  rw [Int.natCast_emod, Int.toNat_of_nonneg (Int.emod_nonneg _ (by decide)), Int.emod_emod_of_dvd _ hdvd]
 rw [key, IntKind.wrap_i64, h3]
 have h4 : 0 ≤ n % ((2 ^ i : Nat) : Int) := Int.emod_nonneg _ (by omega)
 have h5 : n % ((2 ^ i : Nat) : Int) < ((2 ^ i : Nat) : Int) := Int.emod_lt_of_pos _ (by omega)
 have h6 : ((2 ^ i : Nat) : Int) ≤ ((2 ^ 62 : Nat) : Int) := Int.ofNat_le.2 hp
 have h7 : ((2 ^ 62 : Nat) : Int) = 4611686018427387904 := by decide
 omega
theorem mask16 (n : Int) : bits .and .i64 n 65535 = n % 65536 := mask n 16 (by decide)
theorem mask10 (n : Int) : bits .and .i64 n 1023 = n % 1024 := mask n 10 (by decide)
theorem wraps_i64 (n : Int) (h₀ : 0 ≤ n) (h₁ : n < 2 ^ 62) : IntKind.i64.wrap n = n := by
 rw [IntKind.wrap_i64]
 have : (2 : Int) ^ 62 = 4611686018427387904 := by decide
 omega
/-- The three, at numbers that are words. -/
def bw (o : Int) (a b : Nat) : Nat := if o = 6 then a &&& b else if o = 7 then a ||| b else a ^^^ b
theorem lt62 {a : Nat} (h : a < 65536) : a < 2 ^ 62 := Nat.lt_of_lt_of_le h (by decide)
theorem and_nat (a b : Nat) (ha : a < 65536) (hb : b < 65536) : bits .and .i64 (a : Int) (b : Int) = ((a &&& b : Nat) : Int) :=
 (bits_nat .i64 62 (by decide) wraps_i64 a b (lt62 ha) (lt62 hb)).1
theorem or_nat (a b : Nat) (ha : a < 65536) (hb : b < 65536) : bits .or .i64 (a : Int) (b : Int) = ((a ||| b : Nat) : Int) :=
 (bits_nat .i64 62 (by decide) wraps_i64 a b (lt62 ha) (lt62 hb)).2
theorem xor_nat (a b : Nat) (ha : a < 65536) (hb : b < 65536) : bits .xor .i64 (a : Int) (b : Int) = ((a ^^^ b : Nat) : Int) := by
 have hx : a ^^^ b < 2 ^ 62 := Nat.xor_lt_two_pow (lt62 ha) (lt62 hb)
 simp only [bits, BitVec.ofInt_natCast, BitVec.toNat_xor, BitVec.toNat_ofNat]
 rw [show IntKind.i64.bits = 64 from rfl, Nat.mod_eq_of_lt (show a < 2 ^ 64 from Nat.lt_trans (lt62 ha) (by decide)), Nat.mod_eq_of_lt (show b < 2 ^ 64 from Nat.lt_trans (lt62 hb) (by decide))]
 exact wraps_i64 _ (Int.natCast_nonneg _) (by exact_mod_cast hx)
theorem bw_lt (o : Int) (a b : Nat) (ha : a < 65536) (hb : b < 65536) : bw o a b < 65536 := by
 unfold bw
 split
 ·exact Nat.and_lt_two_pow (n := 16) a hb
 split
 ·exact Nat.or_lt_two_pow (n := 16) ha hb
 ·exact Nat.xor_lt_two_pow (n := 16) ha hb
/-- One bit more. -/
def bt (a k : Nat) : Nat := a / 2 ^ k % 2
theorem bt_le (a k : Nat) : bt a k ≤ 1 := by unfold bt; omega
theorem bt_test (a k : Nat) : a.testBit k = decide (bt a k = 1) := by rw [Nat.testBit_eq_decide_div_mod_eq]; rfl
def hit (o : Int) (a b k : Nat) : Bool := decide (o = 6 ∧ bt a k + bt b k = 2 ∨ o = 7 ∧ 0 < bt a k + bt b k ∨ o = 8 ∧ bt a k + bt b k = 1)
theorem bw_test (o : Int) (a b k : Nat) (ho : o = 6 ∨ o = 7 ∨ o = 8) : (bw o a b).testBit k = hit o a b k := by
 have h1 := bt_le a k
 have h2 := bt_le b k
 rcases ho with rfl | rfl | rfl
 ·have e : bw 6 a b = a &&& b := rfl
  rw [e, Nat.testBit_and, bt_test, bt_test]
  unfold hit
  rw [Bool.eq_iff_iff]; simp; omega
 ·have e : bw 7 a b = a ||| b := rfl
  rw [e, Nat.testBit_or, bt_test, bt_test]
  unfold hit
  rw [Bool.eq_iff_iff]; simp; omega
 ·have e : bw 8 a b = a ^^^ b := rfl
  rw [e, Nat.testBit_xor, bt_test, bt_test]
  unfold hit
  rw [Bool.eq_iff_iff]
  have h3 : bt a k = 0 ∨ bt a k = 1 := by omega
  have h4 : bt b k = 0 ∨ bt b k = 1 := by omega
  rcases h3 with h3 | h3 <;> rcases h4 with h4 | h4 <;> simp [h3, h4]
theorem bw_step (o : Int) (a b k : Nat) (ho : o = 6 ∨ o = 7 ∨ o = 8) : bw o a b % 2 ^ (k + 1) = bw o a b % 2 ^ k + if hit o a b k = true then 2 ^ k else 0 := by
 have h := bt_test (bw o a b) k
 rw [bw_test o a b k ho] at h
 have h1 := bt_le (bw o a b) k
 rw [Nat.mod_pow_succ, show bw o a b / 2 ^ k % 2 = bt (bw o a b) k from rfl]
 rw [h]
 have h3 : bt (bw o a b) k = 0 ∨ bt (bw o a b) k = 1 := by omega
 rcases h3 with h3 | h3 <;> simp [h3]
theorem and_pow (w : Nat) (i : Nat) : w &&& 2 ^ i = bt w i * 2 ^ i := by
 have := bt_le w i
 have ht := bt_test w i
 have h3 : bt w i = 0 ∨ bt w i = 1 := by omega
 apply Nat.eq_of_testBit_eq
 intro j
 rw [Nat.testBit_and, Nat.testBit_two_pow]
 by_cases hj : i = j
 ·subst hj
  rcases h3 with h3 | h3 <;> rw [ht] <;> simp [h3]
 ·rcases h3 with h3 | h3 <;> simp [h3, hj]
theorem bit15 (w : Nat) (h : w < 65536) : bits .and .i64 (w : Int) 32768 = ((w / 32768 % 2 * 32768 : Nat) : Int) := by
 rw [show (32768 : Int) = ((2 ^ 15 : Nat) : Int) from by decide, and_nat w _ h (by decide), and_pow]
 rfl
theorem bit14 (w : Nat) (h : w < 65536) : bits .and .i64 (w : Int) 16384 = ((w / 16384 % 2 * 16384 : Nat) : Int) := by
 rw [show (16384 : Int) = ((2 ^ 14 : Nat) : Int) from by decide, and_nat w _ h (by decide), and_pow]
 rfl
theorem or15 (t : Int) (h0 : 0 ≤ t) (h1 : t < 1024) : bits .or .i64 32768 t = 32768 + t :=
 bits_join .i64 62 (by decide) wraps_i64 10 32768 t (by decide) (by decide) (by decide) h0 (by omega) (by omega)
theorem or14 (t : Int) (h0 : 0 ≤ t) (h1 : t < 1024) : bits .or .i64 49152 t = 49152 + t :=
 bits_join .i64 62 (by decide) wraps_i64 10 49152 t (by decide) (by decide) (by decide) h0 (by omega) (by omega)
end Go.Proofs.YtoebmjgkfkfhjaaGreatDoor.Bw
