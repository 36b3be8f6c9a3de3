/- word.Hex, walked. -/
import Derived.Test.YtfpkbfhaipgibaaDoorHexOfWalk
import Derived.Test.YtfpkbfhaipgibaaDoorBld
import Derived.Test.YtfpkbfhaipgibaaDoorShelf
import Derived.Test.YtfpkbfhaipgibaaDoorTell
import Derived.Laws.BitsLemmas
namespace Go.Proofs.YtfpkbfhaipgibaaDoor.Hex
open Go.RowKit Go.Proofs.YtfpkbfhaipgibaaDoor.Mem

theorem and15 (n : Int) : bits .and .i64 n 15 = n % 16 := by
  have hm : (BitVec.ofInt 64 15).toNat = 2 ^ 4 - 1 := by decide
  have key : (BitVec.ofInt 64 n &&& BitVec.ofInt 64 15).toNat = (n % ((2 ^ 64 : Nat) : Int)).toNat % 2 ^ 4 := by
    rw [BitVec.toNat_and, BitVec.toNat_ofInt, hm, Nat.and_two_pow_sub_one_eq_mod]
  show IntKind.i64.wrap ((BitVec.ofInt 64 n &&& BitVec.ofInt 64 15).toNat : Nat) = n % 16
  rw [key, IntKind.wrap_i64]
  omega
theorem dig_at (x : Int) (h : x.toNat < hexes.size) : hexes[x.toNat]'h = dig x := by
  unfold dig
  rw [List.getD_eq_getElem?_getD, Array.getElem?_toList, Array.getElem?_eq_getElem (show x.toNat < hexes.data.size from h)]
  rfl
def okW (v : Int) : Prop := 0 ≤ v ∧ v ≤ 65535
end Go.Proofs.YtfpkbfhaipgibaaDoor.Hex
