/- Two arrays of two integers, held against each other. -/
import Derived.Test.YtfpkbfhaipgibaaDoorChecked
import Derived.Test.YtfpkbfhaipgibaaDoorMem
import Derived.ChangeKeysEq
namespace Go.Proofs.YtfpkbfhaipgibaaDoor.Mem
open Go.RowKit

theorem part_int (xs : Array Value) (o : Nat) (a : Int) (w : World) (h : xs[o]? = some (.int .i64 a)) : (part 3 xs o).run Tryd.prog w = .ok (.int .i64 a) w := by
  simp [part, isAgg, underlying, Tryd.underlying3, h]
theorem intInfo : ∃ i, Tryd.prog.info? 3 = some i := by
  cases h : Tryd.prog.info? 3 with
  | some i => exact ⟨i, rfl⟩
  | none =>
    have : (Tryd.prog.info? 3).isSome = true := by kernel_rfl
    rw [h] at this; cases this
theorem intCells : Tryd.prog.cellsOf 3 = 1 := by kernel_rfl
theorem arr2_eq (a b c d : Int) (w : World) : (Op.equalIn 10000 78 (.agg #[.int .i64 a, .int .i64 b]) (.agg #[.int .i64 c, .int .i64 d])).run Tryd.prog w = .ok (a == c && b == d) w := by
  obtain ⟨i, hi⟩ := intInfo
  rw [run_equalIn_array w 9999 _ _ Tryd.underlying78 hi, intCells]
  have r2 : List.range 2 = [0, 1] := rfl
  rw [r2]
  simp only [Op.eqItems, Sem.run_bind, part_int #[.int .i64 a, .int .i64 b] (0 * 1) a w rfl, part_int #[.int .i64 c, .int .i64 d] (0 * 1) c w rfl, Result.andThen_ok, run_equalIn_int w 9998 3 .i64 .i64 _ _ Tryd.underlying3]
  cases h : (a == c) <;> cases h' : (b == d) <;> simp [part_int #[.int .i64 a, .int .i64 b] 1 b w rfl, part_int #[.int .i64 c, .int .i64 d] 1 d w rfl, run_equalIn_int w 9998 3 .i64 .i64 _ _ Tryd.underlying3, h']
theorem arr2_neq (a b c d : Int) (w : World) : (binOp .neq 78 (.agg #[.int .i64 a, .int .i64 b]) (.agg #[.int .i64 c, .int .i64 d])).run Tryd.prog w = .ok (.bool (!(a == c && b == d))) w := by
  rw [run_neq_struct, arr2_eq]; rfl
end Go.Proofs.YtfpkbfhaipgibaaDoor.Mem
