/- word.digit and word.readWord, walked. -/
import Derived.Test.YtfpkbfhaipgibaaDoorCutWalk
import Derived.Laws.RangeString
import Derived.Laws.RangeAny
namespace Go.Proofs.YtfpkbfhaipgibaaDoor.Hex
open Go.RowKit Go.Proofs.YtfpkbfhaipgibaaDoor.Mem

/-- A digit's worth; 16: it is none. -/
def worth (b : Nat) : Nat := if 48 ≤ b ∧ b ≤ 57 then b - 48 else if 97 ≤ b ∧ b ≤ 102 then b - 87 else 16
def num (l : List UInt8) : Nat := l.foldl (fun n b => n * 16 + worth b.toNat) 0
def good (l : List UInt8) : Bool := l.all fun b => worth b.toNat < 16
def isWord (l : List UInt8) : Bool := l.length == 4 && good l
theorem num_snoc (l : List UInt8) (b : UInt8) : num (l ++ [b]) = num l * 16 + worth b.toNat := by simp [num]
theorem good_snoc (l : List UInt8) (b : UInt8) : good (l ++ [b]) = (good l && decide (worth b.toNat < 16)) := by simp [good]
theorem worth_le (b : Nat) : worth b ≤ 16 := by
  unfold worth
  split
  · omega
  · split <;> omega
theorem num_lt (l : List UInt8) : num l < 17 ^ l.length * 2 := by
  suffices h : ∀ (l : List UInt8) (n : Nat), l.foldl (fun n b => n * 16 + worth b.toNat) n + 1 ≤ (n + 1) * 17 ^ l.length by
    have := h l 0
    unfold num
    omega
  intro l
  induction l with
  | nil => intro n; simp
  | cons b l ih =>
    intro n
    have h1 := ih (n * 16 + worth b.toNat)
    have h2 := worth_le b.toNat
    simp only [List.foldl_cons, List.length_cons]
    refine Nat.le_trans h1 ?_
    rw [Nat.pow_succ, Nat.mul_comm (17 ^ l.length) 17, ← Nat.mul_assoc]
    exact Nat.mul_le_mul_right _ (by omega)
theorem ret2_int {a b : Int} {c : Bool} (h : a = b) : Ending.returned (.tuple #[.int .i64 a, .bool c]) = .returned (.tuple #[.int .i64 b, .bool c]) := by rw [h]
/-- What readWord answers. -/
def rwV (t : ByteArray) : Value := .tuple #[.int .i64 (if isWord t.data.toList = true then num t.data.toList else 0), .bool (isWord t.data.toList)]
theorem rwV_yes {t : ByteArray} (h : isWord t.data.toList = true) : rwV t = .tuple #[.int .i64 (num t.data.toList), .bool true] := by unfold rwV; rw [if_pos h, h]
theorem rwV_no {t : ByteArray} (h : isWord t.data.toList = false) : rwV t = .tuple #[.int .i64 0, .bool false] := by unfold rwV; rw [if_neg (by rw [h]; decide), h]
theorem bad_at {t : ByteArray} {k : Nat} (h : k < t.size) (hb : ¬ worth t[k].toNat < 16) : isWord t.data.toList = false := by
  unfold isWord
  have : good t.data.toList = false := by
    rw [← Bool.not_eq_true]
    intro e
    have := List.all_eq_true.1 e t[k] (by rw [Array.mem_toList_iff]; exact Array.getElem_mem h)
    exact hb (by simpa using this)
  rw [this, Bool.and_false]
theorem iter_below (w : World) (s : ByteArray) (p : Nat) : Below w.heap.size w (w.iter s p) := bal (Below.refl _ _) _
end Go.Proofs.YtfpkbfhaipgibaaDoor.Hex
