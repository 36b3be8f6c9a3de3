/- Two arrays of two integers, held against each other. -/
import Derived.Test.YtoebmjgkfkfhjaaGreatDoorChecked
import Derived.Test.YtoebmjgkfkfhjaaGreatDoorGBase
import Derived.ChangeKeysEq
namespace Go.Proofs.YtoebmjgkfkfhjaaGreatDoor.Mem
open Go.RowKit
theorem part_int (xs : Array Value) (o : Nat) (a : Int) (w : World) (h : xs[o]? = some (.int .i64 a)) : (part 3 xs o).run Tryz.prog w = .ok (.int .i64 a) w := by
 simp [part, isAgg, underlying, Tryz.underlying3, h]
theorem intInfo : ∃ i, Tryz.prog.info? 3 = some i := by
 cases h : Tryz.prog.info? 3 with
 | some i => exact ⟨i, rfl⟩
 | none =>
  have : (Tryz.prog.info? 3).isSome = true := by kernel_rfl
  rw [h] at this; cases this
theorem intCells : Tryz.prog.cellsOf 3 = 1 := by kernel_rfl
end Go.Proofs.YtoebmjgkfkfhjaaGreatDoor.Mem
