/- A struct of integers of one kind, by value: its cells are written out. -/
import Derived.ProofKit
namespace Go.Proofs.YtoebmjgkfkfhjaaGreatDoor
open Go.ChangeShapes Go.WideShapes
theorem cell_int {P : Program} {w : World} {r : Reach} {base : Nat} {u : TypeId} {k : IntKind} {v : Value} (hu : P.underlying u = some (.int k)) (h : Cell.okWide P w r base u v) :
  ∃ n, v = .int k n ∧ k.has n := by
 simp only [Cell.okWide, hu] at h
 cases v <;> simp_all [Cell.ok]
theorem val_int {P : Program} {w : World} {r : Reach} {base : Nat} {u : TypeId} {k : IntKind} {v : Value} (hu : P.underlying u = some (.int k)) (h : Value.okWide P w r base u v) :
  ∃ n, v = .int k n ∧ k.has n := by
 simp only [Value.okWide, hu] at h
 exact cell_int hu h
theorem has_i64 {n : Int} (h : IntKind.i64.has n) : -9223372036854775808 ≤ n ∧ n ≤ 9223372036854775807 := by
 obtain ⟨a, b⟩ := h
 simp [IntKind.min, IntKind.max, IntKind.signed, IntKind.bits] at a b
 omega
end Go.Proofs.YtoebmjgkfkfhjaaGreatDoor
